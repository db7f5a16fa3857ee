/- A region that draws its order: reads taken first under a condition on the world that need not hold behind one operation, which waits for them. -/
import Derived.Test.YtgjamgojjajcnaaQ05
import Derived.Test.YtgjamgojjajcnaaQ03
namespace Go.Proofs.Ytgjamgojjajcnaa
open Go.RowKit
section
variable {P : Program} {ops : Array Oper} {Q : Exit → Act → World → Prop} {md : Region.Mode} {S : World → Prop} {z : Nat}
/-- whatever order is picked from here on, and S holds behind each operation but z -/
def wpAnyU (P : Program) (md : Region.Mode) (ops : Array Oper) (Q : Exit → Act → World → Prop) (S : World → Prop) (z : Nat) : Nat → Array Bool → Act → World → Prop
  | 0, listed, a, w => Region.ready md ops listed = [] ∧ Q .normal a w
  | fuel + 1, listed, a, w => (Region.ready md ops listed = [] → Q .normal a w) ∧
    ∀ i ∈ Region.ready md ops listed, wpOp P ops Q i (fun a' w' => (i = z ∨ S w') ∧ wpAnyU P md ops Q S z fuel (listed.setIfInBounds i true) a' w') a w
theorem wpAny_of_U : ∀ (fuel : Nat) (listed : Array Bool) (a : Act) (w : World), wpAnyU P md ops Q S z fuel listed a w → wpAny P md ops Q fuel listed a w
  | 0, _, _, _, h => h
  | fuel + 1, _, _, _, h => ⟨h.1, fun i hi => wpOp_mono (fun a' w' h' => wpAny_of_U fuel _ a' w' h'.2) (h.2 i hi)⟩
/-- does z wait for i? -/
def waitsB (md : Region.Mode) (ops : Array Oper) (z i : Nat) : Bool := match ops[z]? with | some o => o.after.any fun e => Region.binds md e && e.on == i | none => false
set_option maxRecDepth 8000 in
theorem not_ready_z {i : Nat} {listed : Array Bool} (hz : waitsB md ops z i = true) (hi : i ∈ Region.ready md ops listed) : z ∉ Region.ready md ops listed := by
  intro hr
  obtain ⟨_, oz, hoz, haft⟩ := mem_ready.1 hr
  unfold waitsB at hz
  rw [hoz] at hz
  simp only [Array.any_eq_true, Bool.and_eq_true, beq_iff_eq] at hz
  obtain ⟨k, hk, hb, he⟩ := hz
  have h1 := haft _ (Array.getElem_mem hk) hb
  have h0 := (mem_ready.1 hi).1
  rw [he] at h1
  by_cases hlt : i < listed.size
  · simp [hlt] at h0 h1
    rw [h0] at h1
    cases h1
  · simp [Array.getElem?_eq_none (Nat.le_of_not_lt hlt)] at h1
set_option maxRecDepth 8000 in
theorem wpAnyU_first {i : Nat} {oi : Oper} {v : Value} (hi : ops[i]? = some oi) (hsel : ∀ (j : Nat) (o : Oper) cs b, ops[j]? = some o → o.op ≠ .select cs b) (hQ : ∀ c a w, Q (.panic c) (a.put oi.dst v) w → Q (.panic c) a w) (hz : waitsB md ops z i = true) (fuel : Nat) :
    ∀ (listed : Array Bool) (a : Act) (w : World), (∀ j oj, ops[j]? = some oj → j ≠ i → listed.getD j true = false → (∀ e ∈ oj.after, Region.binds md e = true → e.on ≠ i) → oi.apart ops oj = true) →
      i ∈ Region.ready md ops listed → YieldsIf P ops S oi v a → S w → wpAnyU P md ops Q S z fuel (listed.setIfInBounds i true) (a.put oi.dst v) w → wpAnyU P md ops Q S z (fuel + 1) listed a w := by
  induction fuel with
  | zero =>
    intro listed a w _ hr hy hS hh
    constructor
    · intro h
      rw [h] at hr
      cases hr
    · intro j hj
      rcases Decidable.em (j = i) with rfl | hne
      · exact hy.wpOp hi hS ⟨.inr hS, hh⟩
      · have hm := ready_mono hj hne
        rw [hh.1] at hm
        cases hm
  | succ fuel ih =>
    intro listed a w hfree hr hy hS hh
    constructor
    · intro h
      rw [h] at hr
      cases hr
    · intro j hj
      rcases Decidable.em (j = i) with rfl | hne
      · exact hy.wpOp hi hS ⟨.inr hS, hh⟩
      · obtain ⟨hun, oj, hoj, haft⟩ := mem_ready.1 hj
        have hjz : j ≠ z := by
          rintro rfl
          exact not_ready_z hz hr hj
        have hno : ∀ e ∈ oj.after, Region.binds md e = true → e.on ≠ i := by
          intro e he hb heq
          refine not_ready_z (z := j) ?_ hr hj
          unfold waitsB
          rw [hoj]
          simp only [Array.any_eq_true, Bool.and_eq_true, beq_iff_eq]
          obtain ⟨k, hk, hek⟩ := Array.mem_iff_getElem.1 he
          exact ⟨k, hk, by rw [hek]; exact hb, by rw [hek]; exact heq⟩
        have h2 := wpOp_putIf hoj (hfree j oj hoj hne hun hno) (fun cs b => hsel i oi cs b hi) (fun cs b => hsel j oj cs b hoj) hQ hy (hh.2 j (ready_mono hj hne))
        refine wpOp_mono (fun a' w' h3 => ?_) h2
        obtain ⟨hy', hs', hu⟩ := h3
        have hs2 := hs'.resolve_left hjz
        refine ⟨.inr hs2, ih _ a' w' ?_ (ready_mono hr (Ne.symm hne)) hy' hs2 ?_⟩
        · intro k ok hk hki hl hn
          refine hfree k ok hk hki ?_ hn
          rcases Decidable.em (j = k) with rfl | hjk
          · exact hun
          · rwa [getD_set_ne true hjk] at hl
        · rw [Array.setIfInBounds_comm _ _ hne]
          exact hu
set_option maxRecDepth 8000 in
/-- what is not listed holds back what waits for it -/
theorem not_ready_un {i : Nat} {listed : Array Bool} (hz : waitsB md ops z i = true) (h0 : listed.getD i true = false) : z ∉ Region.ready md ops listed := by
  intro hr
  obtain ⟨_, oz, hoz, haft⟩ := mem_ready.1 hr
  unfold waitsB at hz
  rw [hoz] at hz
  simp only [Array.any_eq_true, Bool.and_eq_true, beq_iff_eq] at hz
  obtain ⟨k, hk, hb, he⟩ := hz
  have h1 := haft _ (Array.getElem_mem hk) hb
  rw [he] at h1
  by_cases hlt : i < listed.size
  · simp [hlt] at h0 h1
    rw [h0] at h1
    cases h1
  · simp [Array.getElem?_eq_none (Nat.le_of_not_lt hlt)] at h1
/-- does z wait for i, by way of these? -/
def chainB (md : Region.Mode) (ops : Array Oper) (z : Nat) : Nat → List Nat → Bool
  | i, [] => waitsB md ops z i
  | i, j :: p => waitsB md ops j i && chainB md ops z j p
theorem chain_ready : ∀ (p : List Nat) {i : Nat} {listed : Array Bool}, chainB md ops z i p = true → listed.getD i true = false → (∀ j ∈ p, listed.getD j true = false) → z ∉ Region.ready md ops listed ∧ ∀ j ∈ p, j ∉ Region.ready md ops listed
  | [], _, _, h, h0, _ => ⟨not_ready_un h h0, fun _ hj => by cases hj⟩
  | j :: p, i, listed, h, h0, hp => by
    simp only [chainB, Bool.and_eq_true] at h
    have r := chain_ready p h.2 (hp j (by simp)) (fun k hk => hp k (by simp [hk]))
    refine ⟨r.1, fun k hk => ?_⟩
    rcases List.mem_cons.1 hk with rfl | hk
    · exact not_ready_un h.1 h0
    · exact r.2 k hk
set_option maxRecDepth 8000 in
theorem wpAnyU_firstP {i : Nat} {oi : Oper} {v : Value} (p : List Nat) (hi : ops[i]? = some oi) (hsel : ∀ (j : Nat) (o : Oper) cs b, ops[j]? = some o → o.op ≠ .select cs b) (hQ : ∀ c a w, Q (.panic c) (a.put oi.dst v) w → Q (.panic c) a w) (hz : chainB md ops z i p = true) (fuel : Nat) :
    ∀ (listed : Array Bool) (a : Act) (w : World), (∀ j oj, ops[j]? = some oj → j ≠ i → listed.getD j true = false → (∀ e ∈ oj.after, Region.binds md e = true → e.on ≠ i) → oi.apart ops oj = true) → (∀ j ∈ p, listed.getD j true = false) →
      i ∈ Region.ready md ops listed → YieldsIf P ops S oi v a → S w → wpAnyU P md ops Q S z fuel (listed.setIfInBounds i true) (a.put oi.dst v) w → wpAnyU P md ops Q S z (fuel + 1) listed a w := by
  induction fuel with
  | zero =>
    intro listed a w _ _ hr hy hS hh
    constructor
    · intro h
      rw [h] at hr
      cases hr
    · intro j hj
      rcases Decidable.em (j = i) with rfl | hne
      · exact hy.wpOp hi hS ⟨.inr hS, hh⟩
      · have hm := ready_mono hj hne
        rw [hh.1] at hm
        cases hm
  | succ fuel ih =>
    intro listed a w hfree hun0 hr hy hS hh
    have hil : listed.getD i true = false := (mem_ready.1 hr).1
    have hc := chain_ready p hz hil hun0
    constructor
    · intro h
      rw [h] at hr
      cases hr
    · intro j hj
      rcases Decidable.em (j = i) with rfl | hne
      · exact hy.wpOp hi hS ⟨.inr hS, hh⟩
      · obtain ⟨hun, oj, hoj, haft⟩ := mem_ready.1 hj
        have hjz : j ≠ z := by
          rintro rfl
          exact hc.1 hj
        have hno : ∀ e ∈ oj.after, Region.binds md e = true → e.on ≠ i := by
          intro e he hb heq
          refine not_ready_un (z := j) ?_ hil hj
          unfold waitsB
          rw [hoj]
          simp only [Array.any_eq_true, Bool.and_eq_true, beq_iff_eq]
          obtain ⟨k, hk, hek⟩ := Array.mem_iff_getElem.1 he
          exact ⟨k, hk, by rw [hek]; exact hb, by rw [hek]; exact heq⟩
        have h2 := wpOp_putIf hoj (hfree j oj hoj hne hun hno) (fun cs b => hsel i oi cs b hi) (fun cs b => hsel j oj cs b hoj) hQ hy (hh.2 j (ready_mono hj hne))
        refine wpOp_mono (fun a' w' h3 => ?_) h2
        obtain ⟨hy', hs', hu⟩ := h3
        have hs2 := hs'.resolve_left hjz
        refine ⟨.inr hs2, ih _ a' w' ?_ ?_ (ready_mono hr (Ne.symm hne)) hy' hs2 ?_⟩
        · intro k ok hk hki hl hn
          refine hfree k ok hk hki ?_ hn
          rcases Decidable.em (j = k) with rfl | hjk
          · exact hun
          · rwa [getD_set_ne true hjk] at hl
        · intro k hk
          rw [getD_set_ne true (by rintro rfl; exact hc.2 _ hk hj)]
          exact hun0 k hk
        · rw [Array.setIfInBounds_comm _ _ hne]
          exact hu
set_option maxRecDepth 8000 in
theorem wpAnyU_takeP (p : List Nat) {i : Nat} {oi : Oper} {v : Value} {fuel : Nat} {listed : Array Bool} {a : Act} {w : World} (hi : ops[i]? = some oi)
    (hs : Region.noSelect ops = true) (hf : Region.free md ops listed i = true) (hr : (Region.ready md ops listed).contains i = true) (hz : (chainB md ops z i p && p.all (fun j => !listed.getD j true)) = true)
    (hQ : ∀ c a w, Q (.panic c) (a.put oi.dst v) w → Q (.panic c) a w) (hy : YieldsIf P ops S oi v a) (hS : S w)
    (h : wpAnyU P md ops Q S z fuel (listed.setIfInBounds i true) (a.put oi.dst v) w) : wpAnyU P md ops Q S z (fuel + 1) listed a w := by
  rw [Bool.and_eq_true, List.all_eq_true] at hz
  exact wpAnyU_firstP p hi (Region.noSelect_spec hs) hQ hz.1 fuel listed a w (Region.free_spec hi hf) (fun j hj => by simpa using hz.2 j hj) (by simpa using hr) hy hS h
theorem wpAnyU_take {i : Nat} {oi : Oper} {v : Value} {fuel : Nat} {listed : Array Bool} {a : Act} {w : World} (hi : ops[i]? = some oi)
    (hs : Region.noSelect ops = true) (hf : Region.free md ops listed i = true) (hr : (Region.ready md ops listed).contains i = true) (hz : waitsB md ops z i = true)
    (hQ : ∀ c a w, Q (.panic c) (a.put oi.dst v) w → Q (.panic c) a w) (hy : YieldsIf P ops S oi v a) (hS : S w)
    (h : wpAnyU P md ops Q S z fuel (listed.setIfInBounds i true) (a.put oi.dst v) w) : wpAnyU P md ops Q S z (fuel + 1) listed a w :=
  wpAnyU_first hi (Region.noSelect_spec hs) hQ hz fuel listed a w (Region.free_spec hi hf) (by simpa using hr) hy hS h
theorem wpAnyU_one {i : Nat} {o : Oper} {fuel : Nat} {listed : Array Bool} {a : Act} {w : World} (hr : Region.ready md ops listed = [i]) (ho : ops[i]? = some o)
    (h : ∀ K' : Act → World → Prop, Shut (∀ a w, (i = z ∨ S w) → ((i = z ∨ S w) → wpAnyU P md ops Q S z fuel (listed.setIfInBounds i true) a w) → K' a w) → if Region.wanted o (yielded ops a.tmps) = true then Oper.wp P o a w K' Q else K' (a.put o.dst undef) w) :
    wpAnyU P md ops Q S z (fuel + 1) listed a w :=
  ⟨fun h0 => (by rw [hr] at h0; cases h0), fun j hj => by
    rw [hr, List.mem_singleton] at hj
    subst hj
    exact wpOp_step ho (fun K' hK => h K' (fun a w hS hW => hK a w ⟨hS, hW hS⟩))⟩
theorem wpAnyU_done {listed : Array Bool} {a : Act} {w : World} (hr : Region.ready md ops listed = []) (h : Q .normal a w) : ∀ fuel, wpAnyU P md ops Q S z fuel listed a w
  | 0 => ⟨hr, h⟩
  | _ + 1 => ⟨fun _ => h, by rw [hr]; simp⟩
theorem wp_region_U {id : Nat} {a : Act} {w : World} (z : Nat) (hm : P.follows .mixedOrders = true) (hS : S w.drew)
    (h : S w.drew → wpAnyU P .any ops (OnlyN Q) S z ops.size (Array.replicate ops.size false) a w.drew) : (Code.region id ops true).wp P Q a w :=
  Code.wp_mono OnlyN.imp (wp_region_any hm (wpAny_of_U _ _ _ _ (h hS)))
theorem wpIn_region_U_out {n id : Nat} {a : Act} {w : World} (z : Nat) (hm : P.follows .mixedOrders = true) (hS : S w.drew)
    (h : S w.drew → wpAnyU P .any ops (OnlyN Q) S z ops.size (Array.replicate ops.size false) a w.drew) : (Code.region id ops true).wpIn Fence.wide n P Q a w :=
  wpIn_wide.2 (wp_region_U z hm hS h)
theorem wpIn_region_U_round {l n id : Nat} {a : Act} {w : World} (z : Nat) (hm : P.follows .mixedOrders = true) (hd : ∀ (i : Nat) (o : Oper), ops[i]? = some o → ∀ c, o.op ≠ .defer c) (hS : S w.drew)
    (h : S w.drew → wpAnyU P .any ops (OnlyN Q) S z ops.size (Array.replicate ops.size false) a w.drew) : (Code.region id ops true).wpIn (Fence.wide.inRound l) n P Q a w :=
  wpIn_region_any hm (wpAnyIn_of_only hd _ _ _ _ (wpAny_of_U _ _ _ _ (h hS)))
end
end Go.Proofs.Ytgjamgojjajcnaa
namespace Go.Proofs.Ytgjamgojjajcnaa
open Go.RowKit
attribute [local go_sem] run_store_bv run_store_wc run_store_bv_drew run_store_wc_drew
/-- behind a write that waits -/
def Dk.queued (D : Dk) (x : Nat × List UInt8) : Dk := { D with waits := D.waits ++ [x] }
set_option maxRecDepth 8000 in
theorem DiskAt.queued {W w1 : World} {base p : Nat} {pl : Pl} {D : Dk} (h : DiskAt W base p pl D) {x : Nat × List UInt8} (hx : x.2.length = 512 ∧ x.1 < D.size) {g cap : Nat}
    (hown : w1.ownsRow base 89 513 (.slice (some ⟨g, 0, none⟩) (D.waits.length + 1) cap) (D.waits.length + 1) (D.waits.flatMap wc ++ wc x)) (hg : W.grownBy w1 pl.wv.ownBlock) (hat : pl.wv.ownBlock = some g ∨ W.heap.size ≤ g) :
    DiskAt (w1.setCell ⟨p, 2, none⟩ (.slice (some ⟨g, 0, none⟩) (D.waits.length + 1) cap)) base p { pl with wv := .slice (some ⟨g, 0, none⟩) (D.waits.length + 1) cap } (D.queued x) := by
  have hpg : p ≠ g := by
    rintro rfl
    rcases hat with e | e
    · exact h.ne_pw e
    · have := h.blk.lt; omega
  have hp1 : Blk w1 p 85 (dcells pl D) := (hg.block p h.blk.lt (fun e => h.ne_pw e.symm)).trans h.blk
  exact { h with
    blk := hp1.set_ 2 _
    map := (h.map.keep (hg.block _ h.map.lt (fun e => h.ne_mw e.symm))).keep (Below.heap_setCell _ _ _ _ h.ne_pm)
    row := by
      have e1 : (D.queued x).waits.length = D.waits.length + 1 := by simp [Dk.queued]
      have e2 : (D.queued x).waits.flatMap wc = D.waits.flatMap wc ++ wc x := by simp [Dk.queued]
      rw [e1, e2]
      refine hown.kept (row := some p) ⟨rfl, rfl, rfl, by simp [World.setCell], fun k _ hk => Below.heap_setCell _ _ _ _ (fun e => hk (by rw [e]))⟩ (.inr ?_)
      intro e
      injection e with e
      exact hpg e.symm
    set := (h.set.keep (fun b hb => hg.block _ (h.set.lt b hb) (fun e => by
      rcases h.ne_fw with hn | hn
      · rw [hn] at hb; cases hb
      · exact hn (e.symm.trans hb.symm)))).keep (fun b hb => Below.heap_setCell _ _ _ _ (fun e => h.ne_pf (by rw [hb, e])))
    wlens := by
      intro y hy
      rcases List.mem_append.1 hy with hy | hy
      · exact h.wlens y hy
      · rw [List.mem_singleton] at hy; subst hy; exact hx }
theorem DiskAt.keepBlk {W w1 : World} {base p : Nat} {pl : Pl} {D : Dk} (h : DiskAt W base p pl D) {b : Nat} {t : TypeId} {cs : Array Value} (hb : Blk W b t cs) (ht : t ≠ 89) (hg : W.grownBy w1 pl.wv.ownBlock) : Blk w1 b t cs :=
  (hg.block b hb.lt (fun e => by
    obtain ⟨cur, hc⟩ := h.row_block e.symm
    unfold Blk at hc hb
    rw [hb] at hc
    injection hc with hc
    injection hc with _ h2
    exact ht h2)).trans hb
set_option maxRecDepth 100000 in
set_option maxHeartbeats 1600000 in
theorem write1_at {w : World} {base p : Nat} {pl : Pl} {D : Dk} (h : DiskAt w base p pl D) (hbase : base ≤ w.heap.size) (hN : D.waits.length ≤ 1000000) (k : Nat) (l : List UInt8) (hk : k < D.size) (hl : l.length = 512) (b0 b1 b2 : Nat)
    (c0 : Blk w b0 31 #[.pointer (some ⟨p, 0, none⟩)]) (c1 : Blk w b1 3 #[.int .i64 (k : Int)]) (c2 : Blk w b2 38 (bv l).toArray) :
    Calls Try.prog 53 #[.pointer (some ⟨b0, 0, none⟩), .pointer (some ⟨b1, 0, none⟩), .pointer (some ⟨b2, 0, none⟩)] w fun e w' =>
      e = .returned (.tuple #[]) ∧ ∃ v, DiskAt w' base p { pl with wv := v } (D.queued (k, l)) ∧ Fr (pl.has p) w w' ∧ (v.ownBlock = pl.wv.ownBlock ∨ ∃ g, v.ownBlock = some g ∧ w.heap.size ≤ g) := by
  have H := Lib.hid h
  have C0 := Lib.hid c0
  have C1 := Lib.hid c1
  have C2 := Lib.hid c2
  have HL := Lib.hid hl
  clear h c0 c1 c2 hl
  go_enter Try.func53, Try.ntmps53
  go_wp2_with fail
  refine wp_region_U (S := fun w' => w'.cell? ⟨b0, 0, none⟩ = some (.pointer (some ⟨p, 0, none⟩)) ∧ w'.cell? ⟨p, 2, none⟩ = some pl.wv ∧ w'.cell? ⟨b1, 0, none⟩ = some (.int .i64 (k : Int)) ∧ w'.rangeAt b2 0 (bv l)) 12 (by kernel_rfl) ⟨(C0.out.cell 0).trans rfl, H.out.c2, (C1.out.cell 0).trans rfl, C2.out.rangeAt⟩ (fun hHeld => ?_)
  refine wpAnyU_take (i := 0) (v := ?v1) rfl (by kernel_rfl) (by kernel_rfl) (by kernel_rfl) (by kernel_rfl) (fun _ _ _ h => h) (Or.inl ⟨by rfl, ?hy1⟩) hHeld ?rest1
  case hy1 =>
    intro w' hSw
    try dsimp only at hSw
    go_simp
    first | done | with_reducible rfl
  try simp only [Act.put, List.getElem_toArray, List.getElem_cons_zero, List.setIfInBounds_toArray, List.set_cons_zero, List.set_cons_succ]
  refine wpAnyU_take (i := 1) (v := ?v2) rfl (by kernel_rfl) (by kernel_rfl) (by kernel_rfl) (by kernel_rfl) (fun _ _ _ h => h) (Or.inl ⟨by rfl, ?hy2⟩) hHeld ?rest2
  case hy2 =>
    intro w' hSw
    try dsimp only at hSw
    go_simp
    first | done | with_reducible rfl
  try simp only [Act.put, List.getElem_toArray, List.getElem_cons_succ, List.getElem_cons_zero, List.setIfInBounds_toArray, List.set_cons_zero, List.set_cons_succ]
  refine wpAnyU_take (i := 2) (v := ?v3) rfl (by kernel_rfl) (by kernel_rfl) (by kernel_rfl) (by kernel_rfl) (fun _ _ _ h => h) (Or.inl ⟨by rfl, ?hy3⟩) hHeld ?rest3
  case hy3 =>
    intro w' hSw
    try dsimp only at hSw
    go_simp
    first | done | with_reducible rfl
  try simp only [Act.put, List.getElem_toArray, List.getElem_cons_succ, List.getElem_cons_zero, List.setIfInBounds_toArray, List.set_cons_zero, List.set_cons_succ]
  refine wpAnyU_take (i := 3) (v := ?v4) rfl (by kernel_rfl) (by kernel_rfl) (by kernel_rfl) (by kernel_rfl) (fun _ _ _ h => h) (Or.inl ⟨by rfl, ?hy4⟩) hHeld ?rest4
  case hy4 =>
    intro w' hSw
    try dsimp only at hSw
    go_simp
    first | done | with_reducible rfl
  try simp only [Act.put, List.getElem_toArray, List.getElem_cons_succ, List.getElem_cons_zero, List.setIfInBounds_toArray, List.set_cons_zero, List.set_cons_succ]
  refine wpAnyU_take (i := 4) (v := ?v5) rfl (by kernel_rfl) (by kernel_rfl) (by kernel_rfl) (by kernel_rfl) (fun _ _ _ h => h) (Or.inl ⟨by rfl, ?hy5⟩) hHeld ?rest5
  case hy5 =>
    intro w' hSw
    try dsimp only at hSw
    go_simp
    first | done | with_reducible rfl
  try simp only [Act.put, List.getElem_toArray, List.getElem_cons_succ, List.getElem_cons_zero, List.setIfInBounds_toArray, List.set_cons_zero, List.set_cons_succ]
  refine wpAnyU_take (i := 5) (v := ?v6) rfl (by kernel_rfl) (by kernel_rfl) (by kernel_rfl) (by kernel_rfl) (fun _ _ _ h => h) (Or.inl ⟨by rfl, ?hy6⟩) hHeld ?rest6
  case hy6 =>
    intro w' hSw
    try dsimp only at hSw
    go_simp
    first | done | with_reducible rfl
  try simp only [Act.put, List.getElem_toArray, List.getElem_cons_succ, List.getElem_cons_zero, List.setIfInBounds_toArray, List.set_cons_zero, List.set_cons_succ]
  refine wpAnyU_take (i := 6) rfl (by kernel_rfl) (by kernel_rfl) (by kernel_rfl) (by kernel_rfl) (fun _ _ _ h => h) (yieldsIf_load_mid (by rfl) 38 _ (by rfl) b2 0 (by rfl) (bv l) _ (fun w' hSw => hSw.2.2.2) Try.underlying38 rfl (by rw [bv_length, HL.out]; exact size47)) hHeld ?_
  try simp only [Act.put, List.getElem_toArray, List.getElem_cons_succ, List.getElem_cons_zero, List.setIfInBounds_toArray, List.set_cons_zero, List.set_cons_succ]
  refine wpAnyU_take (i := 7) rfl (by kernel_rfl) (by kernel_rfl) (by kernel_rfl) (by kernel_rfl) (fun _ _ _ h => h) (yieldsIf_build84 (by rfl) _ _ (by rfl) k l (by rfl) (by rfl) HL.out) hHeld ?_
  try simp only [Act.put, List.getElem_toArray, List.getElem_cons_succ, List.getElem_cons_zero, List.setIfInBounds_toArray, List.set_cons_zero, List.set_cons_succ]
  refine wpAnyU_one (i := 8) (by kernel_rfl) (by rfl) (fun K hK => ?_)
  refine step_buildSlice84 rfl (.tmp 10) (by rfl) (k, l) (by rfl) HL.out ?_
  refine hK.out _ _ (.inr ⟨((C0.out.alloc _).cell 0).trans rfl, (H.out.alloc _).c2, ((C1.out.alloc _).cell 0).trans rfl, (C2.out.alloc _).rangeAt⟩) (fun hHeld => ?_)
  replace hHeld := hHeld.resolve_left (by decide)
  clear hK K
  try simp only [Act.put, List.getElem_toArray, List.getElem_cons_succ, List.getElem_cons_zero, List.setIfInBounds_toArray, List.set_cons_zero, List.set_cons_succ]
  refine wpAnyU_one (i := 9) (by kernel_rfl) (by rfl) (fun K hK => ?_)
  refine step_append84 rfl (.tmp 7) (.tmp 11) (by rfl) base pl.wv D.waits.length _ (by rfl) (H.out.drew.alloc _).row w.heap.size 1 (k, l) (by rfl) (Blk.new w.drew _ _) HL.out hN (by simp; omega) ?_
  intro g cap w1 hown hg hat
  have H1 := H.out.drew.alloc (.cells (wc (k, l)).toArray 89)
  have hp1 : Blk w1 p 85 (dcells pl D) := (hg.block p H1.blk.lt (fun e => H1.ne_pw e.symm)).trans H1.blk
  have hb0 := H1.keepBlk (show Blk (w.drew.alloc (.cells (wc (k, l)).toArray 89)) b0 _ _ from C0.out.alloc _) (by decide) hg
  have hb1 := H1.keepBlk (show Blk (w.drew.alloc (.cells (wc (k, l)).toArray 89)) b1 _ _ from C1.out.alloc _) (by decide) hg
  have hb2 := H1.keepBlk (show Blk (w.drew.alloc (.cells (wc (k, l)).toArray 89)) b2 _ _ from C2.out.alloc _) (by decide) hg
  refine hK.out _ _ (.inr ⟨(hb0.cell 0).trans rfl, (hp1.cell 2).trans rfl, (hb1.cell 0).trans rfl, hb2.rangeAt⟩) (fun hHeld => ?_)
  replace hHeld := hHeld.resolve_left (by decide)
  clear hK K
  try simp only [Act.put, List.getElem_toArray, List.getElem_cons_succ, List.getElem_cons_zero, List.setIfInBounds_toArray, List.set_cons_zero, List.set_cons_succ]
  have f2 := hp1.frozen 2
  have c2p := (hp1.cell 2).trans (show (dcells pl D)[2]? = some pl.wv from rfl)
  refine wpAnyU_one (i := 10) (by kernel_rfl) (by rfl) (fun K hK => ?_)
  go_simp
  refine hK.out _ _ (.inr ⟨(hb0.cell 0).trans rfl, (hp1.cell 2).trans rfl, (hb1.cell 0).trans rfl, hb2.rangeAt⟩) (fun hHeld => ?_)
  replace hHeld := hHeld.resolve_left (by decide)
  clear hK K
  try simp only [Act.put, List.getElem_toArray, List.getElem_cons_succ, List.getElem_cons_zero, List.setIfInBounds_toArray, List.set_cons_zero, List.set_cons_succ]
  refine wpAnyU_one (i := 11) (by kernel_rfl) (by rfl) (fun K hK => ?_)
  go_simp
  refine hK.out _ _ (.inr ⟨(hb0.cell 0).trans rfl, (hp1.cell 2).trans rfl, (hb1.cell 0).trans rfl, hb2.rangeAt⟩) (fun hHeld => ?_)
  replace hHeld := hHeld.resolve_left (by decide)
  clear hK K
  try simp only [Act.put, List.getElem_toArray, List.getElem_cons_succ, List.getElem_cons_zero, List.setIfInBounds_toArray, List.set_cons_zero, List.set_cons_succ]
  refine wpAnyU_one (i := 12) (by kernel_rfl) (by rfl) (fun K hK => ?_)
  go_simp
  refine hK.out _ _ (.inl rfl) (fun hHeld => ?_)
  clear hK K
  try simp only [Act.put, List.getElem_toArray, List.getElem_cons_succ, List.getElem_cons_zero, List.setIfInBounds_toArray, List.set_cons_zero, List.set_cons_succ]
  refine wpAnyU_done (by kernel_rfl) ?_ _
  refine OnlyN.normal ?_
  have hat' : pl.wv.ownBlock = some g ∨ (w.drew.alloc (.cells (wc (k, l)).toArray 89)).heap.size ≤ g := hat.imp id (fun e => Nat.le_of_eq e.symm)
  have hq := H1.queued ⟨HL.out, hk⟩ hown hg hat'
  have hfr : Fr (pl.has p) w (w1.setCell ⟨p, 2, none⟩ (.slice (some ⟨g, 0, none⟩) (D.waits.length + 1) cap)) := ((((Fr.refl (pl.has p) w).drew).alloc _).grown hg (fun i e _ => .inr (.inr (.inl e)))).setCell (fun _ => .inl rfl) _
  have hg0 : pl.wv.ownBlock = some g ∨ w.heap.size ≤ g := hat.imp id (fun e => by rw [e]; simp)
  go_end0
  exact ⟨rfl, _, hq, hfr, hg0.imp (fun e => e.symm) (fun e => ⟨g, rfl, e⟩)⟩
set_option maxRecDepth 8000 in
theorem blks3 (w : World) (v0 v1 : Value) (c2 : Array Value) (t0 t1 t2 : TypeId) :
    Blk (((w.alloc (.cells #[v0] t0)).alloc (.cells #[v1] t1)).alloc (.cells c2 t2)) w.heap.size t0 #[v0] ∧
    Blk (((w.alloc (.cells #[v0] t0)).alloc (.cells #[v1] t1)).alloc (.cells c2 t2)) (w.heap.size + 1) t1 #[v1] ∧
    Blk (((w.alloc (.cells #[v0] t0)).alloc (.cells #[v1] t1)).alloc (.cells c2 t2)) (w.heap.size + 2) t2 c2 ∧
    Below w.heap.size w (((w.alloc (.cells #[v0] t0)).alloc (.cells #[v1] t1)).alloc (.cells c2 t2)) ∧
    (((w.alloc (.cells #[v0] t0)).alloc (.cells #[v1] t1)).alloc (.cells c2 t2)).heap.size = w.heap.size + 3 := by
  have e1 := Blk.new (w.alloc (.cells #[v0] t0)) t1 #[v1]
  have e2 := Blk.new ((w.alloc (.cells #[v0] t0)).alloc (.cells #[v1] t1)) t2 c2
  simp only [World.size_alloc] at e1 e2
  exact ⟨((Blk.new w _ _).alloc _).alloc _, e1.alloc _, e2, (((Below.refl _ w).alloc (Nat.le_refl _) _).alloc (by simp) _).alloc (by simp; omega) _, by simp⟩
theorem enters62 (args : Array Value) (w : World) : (callFunc 53 args).run Try.prog w = .ok (.enter 53 args) w := enters_of Try.func53 (by kernel_rfl) rfl args w
set_option maxRecDepth 100000 in
set_option maxHeartbeats 800000 in
theorem write_no {w : World} (p : Option Addr) (n : Int) (l : List UInt8) (no : Int) (hno : no ≠ 0) (ha : ∀ W, Below w.heap.size w W → Calls Try.prog 37 #[.pointer p, .int .i64 n] W fun e w' => e = .returned (.int .i64 no) ∧ W = w') :
    Calls Try.prog 21 #[.pointer p, .int .i64 n, sec l] w fun e w' => e = .returned (.int .i64 no) ∧ Below w.heap.size w w' := by
  have HA := Lib.hid ha
  have hne : (no != 0) = true := by simpa using hno
  have q := blks3 w (.pointer p) (.int .i64 n) (bv l).toArray 31 3 38
  clear ha hno
  go_enter Try.func21, Try.ntmps21
  go_wp2_with fail
  obtain ⟨q0, q1, q2, qb, qs⟩ := q
  generalize ((w.alloc (.cells #[.pointer p] 31)).alloc (.cells #[.int .i64 n] 3)).alloc (.cells (bv l).toArray 38) = W at q0 q1 q2 qb qs ⊢
  refine (HA.out W qb).mono ?_
  rintro e w' ⟨rfl, rfl⟩
  have QB := Lib.hid qb
  clear q0 q1 q2 qb qs
  go_wp2
  go_ret
  exact ⟨rfl, QB.out⟩
theorem write_nil (w : World) (n : Int) (l : List UInt8) : Calls Try.prog 21 #[.pointer none, .int .i64 n, sec l] w fun e w' => e = .returned (.int .i64 1) ∧ Below w.heap.size w w' :=
  write_no none n l 1 (by decide) (fun W _ => asked_nil W n)
theorem write_out {w : World} {base p : Nat} {pl : Pl} {D : Dk} (h : DiskAt w base p pl D) (n : Int) (l : List UInt8) (hn : n < 0 ∨ (D.size : Int) ≤ n) :
    Calls Try.prog 21 #[.pointer (some ⟨p, 0, none⟩), .int .i64 n, sec l] w fun e w' => e = .returned (.int .i64 4) ∧ Below w.heap.size w w' :=
  write_no _ n l 4 (by decide) (fun _ hb => asked_no (h.below hb) n hn)
set_option maxRecDepth 100000 in
set_option maxHeartbeats 800000 in
theorem write_fails {w : World} {base p : Nat} {pl : Pl} {D : Dk} (h : DiskAt w base p pl D) (n : Nat) (l : List UInt8) (hn : n < D.size) (hs : D.steps < 1000000) (hf : D.next = true) :
    Calls Try.prog 21 #[.pointer (some ⟨p, 0, none⟩), .int .i64 (n : Int), sec l] w fun e w' => e = .returned (.int .i64 120) ∧ DiskAt w' base p pl D.stepped ∧ Fr (pl.has p) w w' := by
  have H := Lib.hid h
  have HF := Lib.hid hf
  have q := blks3 w (.pointer (some ⟨p, 0, none⟩)) (.int .i64 (n : Int)) (bv l).toArray 31 3 38
  clear h hf
  go_enter Try.func21, Try.ntmps21
  go_wp2_with fail
  obtain ⟨q0, q1, q2, qb, qs⟩ := q
  generalize ((w.alloc (.cells #[.pointer (some ⟨p, 0, none⟩)] 31)).alloc (.cells #[.int .i64 (n : Int)] 3)).alloc (.cells (bv l).toArray 38) = W at q0 q1 q2 qb qs ⊢
  have HW := Lib.hid (H.out.below qb)
  refine (asked_ok HW.out n hn).mono ?_
  rintro e w' ⟨rfl, rfl⟩
  have c0 := (q0.cell 0).trans rfl
  have QB := Lib.hid qb
  clear q0 q1 q2 qb qs
  go_wp2_with fail
  refine (step_fails HW.out HF.out hs _).mono ?_
  rintro e w2 ⟨rfl, h2, f2⟩
  have J2 := Lib.hid h2
  have JF := Lib.hid ((Fr.of_below (S := pl.has p) QB.out).trans f2)
  clear h2 f2
  go_wp2
  go_ret
  exact ⟨rfl, J2.out, JF.out⟩
set_option maxRecDepth 100000 in
set_option maxHeartbeats 800000 in
theorem write_goes {w : World} {base p : Nat} {pl : Pl} {D : Dk} (h : DiskAt w base p pl D) (hbase : base ≤ w.heap.size) (hN : D.waits.length ≤ 1000000) (n : Nat) (l : List UInt8) (hl : l.length = 512) (hn : n < D.size) (hs : D.steps < 1000000) (hf : D.next = false) :
    Calls Try.prog 21 #[.pointer (some ⟨p, 0, none⟩), .int .i64 (n : Int), sec l] w fun e w' =>
      e = .returned (.int .i64 0) ∧ ∃ v, DiskAt w' base p { pl with wv := v } (D.stepped.queued (n, l)) ∧ Fr (pl.has p) w w' ∧ (v.ownBlock = pl.wv.ownBlock ∨ ∃ g, v.ownBlock = some g ∧ w.heap.size ≤ g) := by
  have H := Lib.hid h
  have HF := Lib.hid hf
  have HL := Lib.hid hl
  have q := blks3 w (.pointer (some ⟨p, 0, none⟩)) (.int .i64 (n : Int)) (bv l).toArray 31 3 38
  clear h hf hl
  go_enter Try.func21, Try.ntmps21
  go_wp2_with fail
  obtain ⟨q0, q1, q2, qb, qs⟩ := q
  generalize ((w.alloc (.cells #[.pointer (some ⟨p, 0, none⟩)] 31)).alloc (.cells #[.int .i64 (n : Int)] 3)).alloc (.cells (bv l).toArray 38) = W at q0 q1 q2 qb qs ⊢
  have HW := Lib.hid (H.out.below qb)
  refine (asked_ok HW.out n hn).mono ?_
  rintro e w' ⟨rfl, rfl⟩
  have c0 := (q0.cell 0).trans rfl
  have Q0 := Lib.hid q0
  have Q1 := Lib.hid q1
  have Q2 := Lib.hid q2
  have QB := Lib.hid qb
  clear q0 q1 q2 qb qs
  go_wp2_with fail
  refine (step_goes HW.out HF.out hs _ _ (fun w' => ∃ v, DiskAt w' base p { pl with wv := v } (D.stepped.queued (n, l)) ∧ Fr (pl.has p) W w' ∧ (v.ownBlock = pl.wv.ownBlock ∨ ∃ g, v.ownBlock = some g ∧ W.heap.size ≤ g)) ?hdo (enters62 _)).mono ?_
  case hdo =>
    intro W1 h1 f1
    have nn := fun k (hk : w.heap.size ≤ k) => H.out.not_new hk
    refine (write1_at h1 (Nat.le_trans hbase (Nat.le_trans QB.out.size f1.size)) hN n l hn HL.out w.heap.size (w.heap.size + 1) (w.heap.size + 2) (f1.keepBlk Q0.out (nn _ (by omega))) (f1.keepBlk Q1.out (nn _ (by omega))) (f1.keepBlk Q2.out (nn _ (by omega)))).mono ?_
    rintro e w3 ⟨rfl, v, h3, f3, hv⟩
    exact ⟨rfl, v, h3, f1.trans f3, hv.imp id (fun ⟨g, h4, h5⟩ => ⟨g, h4, Nat.le_trans f1.size h5⟩)⟩
  rintro e w2 ⟨rfl, h2⟩
  have J2 : Hid (∃ v, DiskAt w2 base p { pl with wv := v } (D.stepped.queued (n, l)) ∧ Fr (pl.has p) w w2 ∧ (v.ownBlock = pl.wv.ownBlock ∨ ∃ g, v.ownBlock = some g ∧ w.heap.size ≤ g)) := by
    obtain ⟨v, h3, f3, hv⟩ := h2
    exact ⟨v, h3, (Fr.of_below (S := pl.has p) QB.out).trans f3, hv.imp id (fun ⟨g, h4, h5⟩ => ⟨g, h4, Nat.le_trans QB.out.size h5⟩)⟩
  clear h2
  go_wp2
  go_ret
  exact ⟨rfl, J2.out⟩
end Go.Proofs.Ytgjamgojjajcnaa
namespace Go.Proofs.Ytgjamgojjajcnaa
open Go.RowKit Go.Shelf
attribute [local go_sem] Oper.semAt_some
attribute [local go_sem] run_store_bv run_store_wc run_store_bv_drew run_store_wc_drew
/-- sectors with writes laid over them, of each so many bytes as its number says -/
def layC (kf : Nat → Nat) (L : Nat → List UInt8) (es : List (Nat × (Nat × List UInt8))) : Nat → List UInt8 :=
  es.foldl (fun L e => upL L e.2.1 (layL (L e.2.1) e.2.2 (kf e.1))) L
set_option maxRecDepth 8000 in
theorem layC_snoc (kf : Nat → Nat) (L : Nat → List UInt8) (es : List (Nat × (Nat × List UInt8))) (e : Nat × (Nat × List UInt8)) :
    layC kf L (es ++ [e]) = upL (layC kf L es) e.2.1 (layL (layC kf L es e.2.1) e.2.2 (kf e.1)) := by simp [layC]
theorem layC_length (kf : Nat → Nat) (hk : ∀ i, kf i ≤ 512) : ∀ (es : List (Nat × (Nat × List UInt8))) (L : Nat → List UInt8), (∀ n, (L n).length = 512) → (∀ e ∈ es, e.2.2.length = 512) → ∀ n, (layC kf L es n).length = 512
  | [], _, hL, _ => hL
  | e :: es, L, hL, he => layC_length kf hk es _ (fun n => by
      show (upL L e.2.1 (layL (L e.2.1) e.2.2 (kf e.1)) n).length = 512
      unfold upL
      split
      · exact layL_length _ _ _ (hL _) (he e (by simp)) (hk _)
      · exact hL n) (fun x hx => he x (by simp [hx]))
/-- what has come, with its numbers -/
def wis {D : Dk} (xs : List (DW D)) : List (Nat × (Nat × List UInt8)) := xs.map (fun y => (y.i, y.x))
set_option maxRecDepth 8000 in
theorem wis_snoc {D : Dk} (xs : List (DW D)) (x : DW D) : wis (xs ++ [x]) = wis xs ++ [(x.i, x.x)] := by simp [wis]
set_option maxRecDepth 8000 in
theorem wis_len {D : Dk} (xs : List (DW D)) : ∀ e ∈ wis xs, e.2.2.length = 512 := by
  intro e he
  obtain ⟨y, _, rfl⟩ := List.mem_map.1 he
  exact y.len
/-- the writes that wait, with their numbers -/
def Dk.nums (D : Dk) : List (Nat × (Nat × List UInt8)) := D.waits.mapIdx fun i x => (i, x)
set_option maxRecDepth 8000 in
theorem wis_all {D : Dk} {xs : List (DW D)} (h : wxs xs = D.waits) (hi : ∀ (i : Nat) (y : DW D), xs[i]? = some y → y.i = i) : wis xs = D.nums := by
  apply List.ext_getElem?
  intro i
  have h2 := congrArg (·[i]?) h
  simp only [wxs, List.getElem?_map] at h2
  rw [wis, Dk.nums, List.getElem?_map, List.getElem?_mapIdx, ← h2]
  cases hx : xs[i]? with
  | none => rfl
  | some y => simp [hi i y hx]
def Dk.laid (D : Dk) (kf : Nat → Nat) : Nat → List UInt8 := layC kf D.lasts D.nums
/-- behind a flush -/
def Dk.flushed (D : Dk) : Dk := { D with lasts := D.laid (fun _ => 512), waits := [] }
theorem own_fr {β : Type} {B : Nat} {S : Nat → Prop} {w0 : World} (hB : w0.heap.size ≤ B) : OwnFrom B (fun (_ : β) W => Fr S w0 W) := fun _ _ _ _ hs hg hr =>
  hs.grown hg (fun i e hi => by have := (hr i e).1; omega)
theorem own_sec {β : Type} {B m : Nat} (hB : m < B) (f : β → Nat → List UInt8) : OwnFrom B (fun (s : β) W => SecMap W m (f s)) := fun _ X _ _ hs hg hr =>
  hs.keep (hg.block m hs.lt (fun e => by have := (hr m e.symm).1; omega))
theorem keepsFrom_fr {B m : Nat} {W W' : World} (h : Fr (· = m) W W') (hm : m < B) : KeepsFrom B W W' :=
  ⟨h.size, fun k o hk ho _ => (h.block k (Array.getElem?_eq_some_iff.1 ho).1 (by omega)).trans ho⟩
/-- the map of sectors has turned -/
theorem DiskAt.turned {w w' : World} {base p : Nat} {pl : Pl} {D : Dk} (h : DiskAt w base p pl D) (hf : Fr (· = pl.m) w w') {L : Nat → List UInt8} (hm : SecMap w' pl.m L) (hl : ∀ n, (L n).length = 512) : DiskAt w' base p pl { D with lasts := L } :=
  { h with
    blk := hf.keepBlk h.blk (fun e => h.ne_pm e.symm)
    map := hm
    row := h.keepRow (fun g hv => hf.block g (h.row.lt g hv).2 (fun e => h.ne_mw (by rw [hv, e])))
    set := h.set.keep (fun b hb => hf.block b (h.set.lt b hb) (fun e => h.ne (by rw [hb, e])))
    lens := hl }
set_option maxRecDepth 8000 in
/-- nothing waits any more -/
theorem DiskAt.emptied {w : World} {base p : Nat} {pl : Pl} {D : Dk} (h : DiskAt w base p pl D) : DiskAt (w.setCell ⟨p, 2, none⟩ (.slice none 0 0)) base p { pl with wv := .slice none 0 0 } { D with waits := [] } :=
  { h with
    blk := h.blk.set_ 2 _
    map := h.map.keep (Below.heap_setCell _ _ _ _ h.ne_pm)
    row := World.ownsRow_nil _ _ _ _
    set := h.set.keep (fun b hb => Below.heap_setCell _ _ _ _ (fun e => h.ne_pf (by rw [hb, e])))
    wlens := by simp }
theorem DiskAt.putObj {w : World} {base p : Nat} {pl : Pl} {D : Dk} (h : DiskAt w base p pl D) {B : Nat} (hB : ¬ pl.has p B) (o : Obj) : DiskAt (w.putObj B o) base p pl D :=
  h.keep fun k hk => World.putObj_heap_other (by rintro rfl; exact hB hk)
theorem Fr.putObj {S : Nat → Prop} {a b : World} (h : Fr S a b) {B : Nat} (hB : a.heap.size ≤ B) (o : Obj) : Fr S a (b.putObj B o) :=
  h.grown (grownBy_putObj' b B o) (fun i e hi => by injection e with e; omega)
set_option maxRecDepth 100000 in
set_option maxHeartbeats 2000000 in
theorem flush1_at {w : World} {base p : Nat} {pl : Pl} {D : Dk} (h : DiskAt w base p pl D) (hN : D.waits.length ≤ 1000000) (b0 : Nat) (c0 : Blk w b0 31 #[.pointer (some ⟨p, 0, none⟩)]) :
    Calls Try.prog 57 #[.pointer (some ⟨b0, 0, none⟩)] w fun e w' =>
      e = .returned (.tuple #[]) ∧ DiskAt w' base p { pl with wv := .slice none 0 0 } D.flushed ∧ Fr (pl.has p) w w' := by
  have hz8 := z84
  have hFw : ∀ f, Fence.wide.fn f := fun _ => trivial
  have h0 := (c0.cell 0).trans rfl
  have H := Lib.hid h
  have C0 := Lib.hid c0
  clear h c0
  refine (callsIn_wide (n := 4)).1 (callsIn_of_wp_marks Try.func57 rfl trivial ?_ rfl)
  simp only [Try.ntmps57, List.size_toArray, List.length_cons, List.length_nil, Nat.reduceAdd, Nat.reduceSub, Array.replicate_succ, Array.replicate_zero, List.push_toArray, List.append_toArray, List.nil_append, List.cons_append]
  gi_wp2_with (gi_at_call 54; refine ((callsIn_wide (n := 3)).2 (waiting_any _ _)).mono ?_; rintro e w' ⟨rfl, rfl⟩)
  have B7 := Lib.hid (Blk.new w 31 #[.pointer (some ⟨p, 0, none⟩)])
  have HD := Lib.hid (H.out.alloc (.cells #[.pointer (some ⟨p, 0, none⟩)] 31))
  have CD := Lib.hid (C0.out.alloc (.cells #[.pointer (some ⟨p, 0, none⟩)] 31))
  have FR := Lib.hid ((Fr.refl (pl.has p) w).alloc (.cells #[.pointer (some ⟨p, 0, none⟩)] 31))
  generalize w.alloc (.cells #[.pointer (some ⟨p, 0, none⟩)] 31) = W0 at B7 HD CD FR ⊢
  clear h0
  refine range_waiting HD.out hN rfl ((B7.out.cell 0).trans rfl) rfl (by omega)
    (fun xs W => SecMap W pl.m (layC (fun _ => 512) D.lasts (wis xs)) ∧ Fr (· = pl.m) W0 W)
    ((own_sec HD.out.map.lt (fun xs => layC (fun _ => 512) D.lasts (wis xs))).and (own_fr (Nat.le_refl _)))
    ⟨HD.out.map, Fr.refl _ _⟩
    (fun x b => { tmps := #[.pointer (some ⟨b0, 0, none⟩), undef, .pointer (some ⟨b, 0, none⟩), .pointer (some ⟨p, 0, none⟩), .func (.func 62) #[] #[.pointer (some ⟨w.heap.size, 0, none⟩)], .int .i64 (x.i : Int), wv x.x, undef, undef, undef, undef, undef, undef, undef, undef, undef], defers := [] })
    ?assign ?body (fun pre W h => h.2.size) ?done
  case assign =>
    intro l x W K hK
    have hxz : x.x.2.length = zs.length := by rw [x.len, zs_length]
    have hwl : (wc x.x).length = 513 := wc_length x.x x.len
    have HKK := Lib.hid hK
    clear hK
    gi_wp2
    exact HKK.out
  case body =>
    rintro l pre x b W _ ⟨i1, i2⟩ hb hbw
    have XL := Lib.hid x.len
    have I1 := Lib.hid i1
    have I2 := Lib.hid i2
    have HW := Lib.hid hbw
    have BN := Lib.hid hb
    have LL := Lib.hid (layC_length (fun _ => 512) (fun _ => Nat.le_refl _) (wis pre) D.lasts HD.out.lens (wis_len pre) x.x.1)
    have WS := Lib.hid (wis_snoc pre x)
    have LS := Lib.hid (layC_snoc (fun _ => 512) D.lasts (wis pre) (x.i, x.x))
    have C0W : Hid (Blk W b0 31 #[.pointer (some ⟨p, 0, none⟩)]) := i2.keepBlk CD.out (by rintro rfl; obtain ⟨es, ck, hm, _⟩ := HD.out.map; have hc := CD.out; unfold Blk at hc; rw [hc] at hm; cases hm)
    have PW : Hid (Blk W p 85 (dcells pl D)) := i2.keepBlk HD.out.blk (fun e => HD.out.ne_pm e.symm)
    clear i1 i2 hbw hb
    gi_wp2_with fail
    refine wpIn_region_round (S := fun w' => w'.cell? ⟨b0, 0, none⟩ = some (.pointer (some ⟨p, 0, none⟩)) ∧ w'.cell? ⟨p, 1, none⟩ = some (.map (some pl.m)) ∧ w'.rangeAt b 0 (wc x.x)) (by kernel_rfl) (noDefer (by kernel_rfl)) ⟨(C0W.out.cell 0).trans rfl, (PW.out.cell 1).trans rfl, HW.out.rangeAt⟩ (fun hHeld => ?_)
    refine wpAnyH_take (i := 0) (v := ?v1) rfl (by kernel_rfl) (by kernel_rfl) (by kernel_rfl) (fun _ _ _ h => h) (Or.inl ⟨by rfl, ?hy1⟩) hHeld ?rest1
    case hy1 =>
      intro w' hSw
      try dsimp only at hSw
      go_simp
      first | done | with_reducible rfl
    try simp only [Act.put, List.getElem_toArray, List.getElem_cons_zero, List.setIfInBounds_toArray, List.set_cons_zero, List.set_cons_succ]
    refine wpAnyH_take (i := 1) (v := ?v2) rfl (by kernel_rfl) (by kernel_rfl) (by kernel_rfl) (fun _ _ _ h => h) (Or.inl ⟨by rfl, ?hy2⟩) hHeld ?rest2
    case hy2 =>
      intro w' hSw
      try dsimp only at hSw
      go_simp
      first | done | with_reducible rfl
    try simp only [Act.put, List.getElem_toArray, List.getElem_cons_succ, List.getElem_cons_zero, List.setIfInBounds_toArray, List.set_cons_zero, List.set_cons_succ]
    refine wpAnyH_take (i := 2) (v := ?v3) rfl (by kernel_rfl) (by kernel_rfl) (by kernel_rfl) (fun _ _ _ h => h) (Or.inl ⟨by rfl, ?hy3⟩) hHeld ?rest3
    case hy3 =>
      intro w' hSw
      try dsimp only at hSw
      go_simp
      first | done | with_reducible rfl
    try simp only [Act.put, List.getElem_toArray, List.getElem_cons_succ, List.getElem_cons_zero, List.setIfInBounds_toArray, List.set_cons_zero, List.set_cons_succ]
    refine wpAnyH_take (i := 3) (v := ?v4) rfl (by kernel_rfl) (by kernel_rfl) (by kernel_rfl) (fun _ _ _ h => h) (Or.inl ⟨by rfl, ?hy4⟩) hHeld ?rest4
    case hy4 =>
      intro w' hSw
      try dsimp only at hSw
      go_simp
      first | done | with_reducible rfl
    try simp only [Act.put, List.getElem_toArray, List.getElem_cons_succ, List.getElem_cons_zero, List.setIfInBounds_toArray, List.set_cons_zero, List.set_cons_succ]
    refine wpAnyH_take (i := 4) rfl (by kernel_rfl) (by kernel_rfl) (by kernel_rfl) (fun _ _ _ h => h) (yieldsIf_load_mid (by rfl) 89 _ (by rfl) b 0 (by rfl) (wc x.x) _ (fun w' hSw => hSw.2.2) Try.underlying89 rfl (by rw [wc_length _ XL.out]; exact size84)) hHeld ?_
    try simp only [Act.put, List.getElem_toArray, List.getElem_cons_succ, List.getElem_cons_zero, List.setIfInBounds_toArray, List.set_cons_zero, List.set_cons_succ]
    refine wpAnyH_ready (rs := [5]) (by kernel_rfl) (by simp) ?_
    refine AllReadyH.cons (by rfl) (fun K hK => ?_) AllReadyH.nil
    go_simp
    refine (lay_any W.drew pl.m _ x.x 512 I1.out XL.out LL.out (Nat.le_refl _)).mono ?_
    rintro e w5 ⟨rfl, sm5, fr5⟩
    have SM5 := Lib.hid sm5
    have FR5 := Lib.hid (show Fr (· = pl.m) W w5 from (Fr.refl _ W).drew.trans fr5)
    have hne : ∀ k, k < W.heap.size → k ≠ pl.m → w5.heap[k]? = W.heap[k]? := fun k hk hn => fr5.block k hk hn
    have cb0 := (hne b0 C0W.out.lt (by rintro rfl; obtain ⟨es, ck, hm, _⟩ := I1.out; have hc := C0W.out; unfold Blk at hc; rw [hc] at hm; cases hm)).trans C0W.out
    have cp := (hne p PW.out.lt (fun e => HD.out.ne_pm e.symm)).trans PW.out
    have cb := (hne b HW.out.lt (by rintro rfl; have := HD.out.map.lt; have := BN.out; omega)).trans HW.out
    have CS := Lib.hid (show _ ∧ _ ∧ _ from ⟨(Blk.cell (t := 31) cb0 0).trans rfl, (Blk.cell (t := 85) cp 1).trans rfl, Blk.rangeAt (t := 89) cb⟩)
    clear sm5 fr5 hne cb0 cp cb
    go_wp2_with fail
    refine hK.out _ _ CS.out (fun hHeld => ?_)
    clear hK K
    try simp only [Act.put, List.getElem_toArray, List.getElem_cons_succ, List.getElem_cons_zero, List.setIfInBounds_toArray, List.set_cons_zero, List.set_cons_succ]
    refine wpAnyH_done (by kernel_rfl) ?_ _
    refine OnlyN.normal ?_
    refine ⟨rfl, keepsFrom_fr FR5.out HD.out.map.lt, fun k hk => FR5.out.block k ?_ (fun e => HD.out.ne_mw (e ▸ hk)), ?_, I2.out.trans FR5.out⟩
    · exact Nat.lt_of_lt_of_le (HD.out.row.lt k hk).2 I2.out.size
    · rw [WS.out, LS.out]
      exact SM5.out
  case done =>
    rintro B xs W hB hxs hxi ⟨i1, i2⟩ hD
    rw [wis_all hxs hxi] at i1
    have I1 := Lib.hid i1
    have I2 := Lib.hid i2
    have c0W := ((i2.keepBlk CD.out (by rintro rfl; obtain ⟨es, ck, hm, _⟩ := HD.out.map; have hc := CD.out; unfold Blk at hc; rw [hc] at hm; cases hm)).cell 0).trans rfl
    have PW : Hid (Blk W p 85 (dcells pl D)) := i2.keepBlk HD.out.blk (fun e => HD.out.ne_pm e.symm)
    have c2W := (PW.out.cell 2).trans (show (dcells pl D)[2]? = some pl.wv from rfl)
    have f2W := PW.out.frozen 2
    have HDB := Lib.hid hD
    have BB := Lib.hid hB
    clear i1 i2 hD hB hxs hxi
    gi_wp2
    have hl := layC_length (fun _ => 512) (fun _ => Nat.le_refl _) D.nums D.lasts HD.out.lens (fun e he => by
      obtain ⟨i, hi, rfl⟩ := List.mem_mapIdx.1 he
      exact (HD.out.wlens _ (List.getElem_mem hi)).1)
    have hd1 := HD.out.turned I2.out I1.out hl
    have hpB : p ≠ B := by have := HD.out.blk.lt; have := BB.out; omega
    have hsW := Nat.le_trans FR.out.size I2.out.size
    refine ⟨by simp, .inl ⟨_, _, rfl, run_takeDeferred ((Below.heap_setCell W ⟨p, 2, none⟩ _ B (Ne.symm hpB)).trans HDB.out), ?_⟩⟩
    refine ⟨_, results_none rfl _ _ _, rfl, hd1.emptied.putObj ?_ _, ?_⟩
    · rintro (e | e | e | e)
      · exact hpB e.symm
      · have := HD.out.map.lt; have := BB.out; simp only at e; omega
      · cases e
      · have := HD.out.set.lt B e; have := BB.out; omega
    · exact ((FR.out.then_ I2.out (fun i _ e => .inr (.inl e))).setCell (fun _ => .inl rfl) _).putObj (Nat.le_trans FR.out.size BB.out) _
theorem enters56 (args : Array Value) (w : World) : (callFunc 57 args).run Try.prog w = .ok (.enter 57 args) w := enters_of Try.func57 (by kernel_rfl) rfl args w
set_option maxRecDepth 100000 in
set_option maxHeartbeats 800000 in
theorem flush_nil (w : World) : Calls Try.prog 24 #[.pointer none] w fun e w' => e = .returned (.int .i64 1) ∧ Below w.heap.size w w' := by
  go_enter Try.func24, Try.ntmps24
  go_wp2_with (go_at_call 47; refine (there_nil _).mono ?_; rintro e w' ⟨rfl, rfl⟩)
  go_ret
  exact ⟨rfl, (Below.refl _ w).alloc (Nat.le_refl _) _⟩
set_option maxRecDepth 100000 in
set_option maxHeartbeats 800000 in
theorem flush_fails {w : World} {base p : Nat} {pl : Pl} {D : Dk} (h : DiskAt w base p pl D) (hs : D.steps < 1000000) (hf : D.next = true) :
    Calls Try.prog 24 #[.pointer (some ⟨p, 0, none⟩)] w fun e w' => e = .returned (.int .i64 120) ∧ DiskAt w' base p pl D.stepped ∧ Fr (pl.has p) w w' := by
  have H := Lib.hid (h.alloc (.cells #[.pointer (some ⟨p, 0, none⟩)] 31))
  have FR := Lib.hid ((Fr.refl (pl.has p) w).alloc (.cells #[.pointer (some ⟨p, 0, none⟩)] 31))
  have HF := Lib.hid hf
  clear h hf
  go_enter Try.func24, Try.ntmps24
  go_wp2_with fail
  refine (there_at H.out).mono ?_
  rintro e w' ⟨rfl, rfl⟩
  go_wp2_with fail
  refine (step_fails H.out HF.out hs _).mono ?_
  rintro e w2 ⟨rfl, h2, f2⟩
  have J2 := Lib.hid h2
  have JF := Lib.hid (FR.out.trans f2)
  clear h2 f2
  go_wp2
  go_ret
  exact ⟨rfl, J2.out, JF.out⟩
set_option maxRecDepth 100000 in
set_option maxHeartbeats 800000 in
theorem flush_goes {w : World} {base p : Nat} {pl : Pl} {D : Dk} (h : DiskAt w base p pl D) (hN : D.waits.length ≤ 1000000) (hs : D.steps < 1000000) (hf : D.next = false) :
    Calls Try.prog 24 #[.pointer (some ⟨p, 0, none⟩)] w fun e w' => e = .returned (.int .i64 0) ∧ DiskAt w' base p { pl with wv := .slice none 0 0 } D.stepped.flushed ∧ Fr (pl.has p) w w' := by
  have N := Lib.hid (h.not_new (Nat.le_refl _))
  have H := Lib.hid (h.alloc (.cells #[.pointer (some ⟨p, 0, none⟩)] 31))
  have FR := Lib.hid ((Fr.refl (pl.has p) w).alloc (.cells #[.pointer (some ⟨p, 0, none⟩)] 31))
  have B0 := Lib.hid (Blk.new w 31 #[.pointer (some ⟨p, 0, none⟩)])
  have HF := Lib.hid hf
  clear h hf
  go_enter Try.func24, Try.ntmps24
  go_wp2_with fail
  refine (there_at H.out).mono ?_
  rintro e w' ⟨rfl, rfl⟩
  go_wp2_with fail
  refine (step_goes H.out HF.out hs _ _ (fun w' => DiskAt w' base p { pl with wv := .slice none 0 0 } D.stepped.flushed ∧ Fr (pl.has p) w w') ?hdo (enters56 _)).mono ?_
  case hdo =>
    intro W1 h1 f1
    refine (flush1_at h1 hN w.heap.size (f1.keepBlk B0.out N.out)).mono ?_
    rintro e w3 ⟨rfl, h3, f3⟩
    exact ⟨rfl, h3, (FR.out.trans f1).trans f3⟩
  rintro e w2 ⟨rfl, h2⟩
  have J2 := Lib.hid h2
  clear h2
  go_wp2
  go_ret
  exact ⟨rfl, J2.out⟩
end Go.Proofs.Ytgjamgojjajcnaa

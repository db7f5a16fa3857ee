/- disk: the walk of Bytes. -/
import Derived.Test.YtjfcmoappbfnjaaP11
import Derived.LoopNIn
import Derived.Deep.OwnRows
import Derived.ChangeKeysEq
import Derived.Laws.StructEq
namespace Go.Proofs.Ytjfcmoappbfnjaa
open List renaming getElem_toArray → zq1, getElem_cons_succ → zq2, getElem_cons_zero → zq3, setIfInBounds_toArray → zq4, set_cons_zero → zq5, set_cons_succ → zq6
open Go.RowKit Go.Shelf
attribute [local go_sem] Oper.semAt_some
attribute [local go_sem] run_store_bv run_store_wc run_store_bv_drew run_store_wc_drew
/-- the first so many sectors, one behind the other -/
def secs (L : Nat → List UInt8) (k : Nat) : List UInt8 := (List.range k).flatMap L
set_option maxRecDepth 8000 in
theorem secs_succ (L : Nat → List UInt8) (k : Nat) : secs L (k + 1) = secs L k ++ L k := by simp [secs, List.range_succ]
theorem secs_length (L : Nat → List UInt8) (hL : ∀ n, (L n).length = 512) : ∀ k, (secs L k).length = k * 512
  | 0 => rfl
  | k + 1 => by rw [secs_succ, List.length_append, secs_length L hL k, hL]; omega
/-- what is read of all sectors -/
def Dk.all (D : Dk) : List UInt8 := secs (D.laid (fun _ => 512)) D.size
theorem Dk.laid_len {w : World} {base p : Nat} {pl : Pl} {D : Dk} (h : DiskAt w base p pl D) (kf : Nat → Nat) (hk : ∀ i, kf i ≤ 512) : ∀ n, (D.laid kf n).length = 512 :=
  layC_length kf hk D.nums D.lasts h.lens (fun e he => by
    obtain ⟨i, hi, rfl⟩ := List.mem_mapIdx.1 he
    exact (h.wlens _ (List.getElem_mem hi)).1)
set_option maxRecDepth 8000 in
theorem infoU8 : (Try.prog.info? 5).map (fun i => (i.zero, i.size, i.bytes)) = some (some (.int .u8 0), 1, 1) := by kernel_rfl
end Go.Proofs.Ytjfcmoappbfnjaa
namespace Go.Proofs.Ytjfcmoappbfnjaa
open List renaming getElem_toArray → zq1, getElem_cons_succ → zq2, getElem_cons_zero → zq3, setIfInBounds_toArray → zq4, set_cons_zero → zq5, set_cons_succ → zq6
open Go.RowKit
/-- the cells from A on read as these ints -/
def RdI (w : World) (A : Option Addr) (l : List Int) : Prop := ∀ j (h : j < l.length), ∃ b off, A = some ⟨b, off, none⟩ ∧ w.cell? ⟨b, off + j, none⟩ = some (.int .i64 l[j])
theorem RdI.keep {w w' : World} {A : Option Addr} {l : List Int} (h : RdI w A l) (hk : ∀ p : Addr, p.block < w.heap.size → (∃ b off, A = some ⟨b, off, none⟩ ∧ p.block = b) → w'.cell? p = w.cell? p) : RdI w' A l := fun j hj => by
  obtain ⟨b, off, e, hc⟩ := h j hj
  exact ⟨b, off, e, (hk _ (cell_lt hc) ⟨b, off, e, rfl⟩).trans hc⟩
theorem RdI.below {w w' : World} {A : Option Addr} {l : List Int} (h : RdI w A l) (hb : Below w.heap.size w w') : RdI w' A l := h.keep fun _ hp _ => hb.cell hp
theorem RdI.take {w : World} {A : Option Addr} {l : List Int} (h : RdI w A l) (n : Nat) : RdI w A (l.take n) := fun j hj => by
  obtain ⟨b, off, e, hc⟩ := h j (by simp at hj; omega)
  exact ⟨b, off, e, by rw [hc]; simp⟩
end Go.Proofs.Ytjfcmoappbfnjaa
namespace Go.Proofs.Ytjfcmoappbfnjaa
open List renaming getElem_toArray → zq1, getElem_cons_succ → zq2, getElem_cons_zero → zq3, setIfInBounds_toArray → zq4, set_cons_zero → zq5, set_cons_succ → zq6
open Go.RowKit Go.Shelf
attribute [local go_sem] Oper.semAt_some
attribute [local go_sem] run_store_bv run_store_wc run_store_bv_drew run_store_wc_drew
/-- how many bytes are kept -/
def Cr.kn (c : Cr) (i : Nat) : Nat := (c.kept i).toNat
/-- what a crash leaves -/
def Dk.crashed (D : Dk) (c : Cr) : Dk := { size := D.size, lasts := D.laid (fun i => c.kn i), waits := [], steps := 0, frm := 0, fails := fun _ => false }
def leftPl (m : Nat) : Pl := { m := m, wv := .slice none 0 0, f := none }
def leftCells (size m : Nat) : Array Value := #[.int .i64 (size : Int), .map (some m), .slice none 0 0, .int .i64 0, .int .i64 0, .map none]
set_option maxRecDepth 8000 in
theorem kept_range (c : Cr) (h0 : 0 ≤ c.bytes) (h5 : c.bytes ≤ 512) (i : Nat) : 0 ≤ c.kept i ∧ c.kept i ≤ 512 := by
  unfold Cr.kept
  split
  · exact ⟨h0, h5⟩
  · split
    · exact ⟨by omega, by omega⟩
    · exact ⟨by omega, by omega⟩
set_option maxRecDepth 8000 in
theorem kn_le (c : Cr) (h0 : 0 ≤ c.bytes) (h5 : c.bytes ≤ 512) (i : Nat) : c.kn i ≤ 512 := by
  have := kept_range c h0 h5 i
  unfold Cr.kn
  omega
set_option maxRecDepth 8000 in
theorem kept_nat (w : World) (c : Cr) (A : Option Addr) (cap : Nat) (hr : RdB w A c.keep) (h0 : 0 ≤ c.bytes) (h5 : c.bytes ≤ 512) (i : Nat) (hi : i ≤ 1000000) :
    Calls Try.prog 55 #[c.val A cap, .int .i64 (i : Int)] w fun e w' => e = .returned (.int .i64 (c.kn i : Int)) ∧ Below w.heap.size w w' := by
  have := (kept_range c h0 h5 i).1
  rw [show ((c.kn i : Nat) : Int) = c.kept i from Int.toNat_of_nonneg this]
  exact kept_at w c A cap hr i hi
/-- behind the region that makes the disk that is left -/
def CrMid (W W' : World) (L : Nat → List UInt8) (size m p' b6 : Nat) : Prop :=
  SecMap W' m L ∧ Blk W' p' 90 (leftCells size m) ∧ Blk W' b6 30 #[.pointer (some ⟨p', 0, none⟩)] ∧ Below W.heap.size W W' ∧ W.heap.size ≤ m ∧ W.heap.size ≤ p' ∧ W.heap.size ≤ b6
set_option maxRecDepth 8000 in
theorem three (W : World) (o1 o2 o3 : Obj) : (((W.alloc o1).alloc o2).alloc o3).drew.heap[W.heap.size]? = some o1 ∧ (((W.alloc o1).alloc o2).alloc o3).drew.heap[W.heap.size + 1]? = some o2 ∧ (((W.alloc o1).alloc o2).alloc o3).drew.heap[W.heap.size + 1 + 1]? = some o3 ∧ Below W.heap.size W (((W.alloc o1).alloc o2).alloc o3).drew := by
  have e1 := heap_alloc2_new W o1 o2
  have e2 := heap_alloc2_old W o1 o2
  have e3 := heap_alloc_new ((W.alloc o1).alloc o2) o3
  simp only [World.size_alloc] at e3
  exact ⟨(Below.heap_alloc _ o3 _ (by simp; omega)).trans e2, (Below.heap_alloc _ o3 _ (by simp)).trans e1, e3, ((((Below.refl _ W).alloc (Nat.le_refl _) _).alloc (by simp) _).alloc (by simp; omega) _).drew⟩
set_option maxRecDepth 8000 in
theorem mid_a (W : World) {es : Array MapEntry} {clock : Nat} {L : Nat → List UInt8} (h : ∀ w : World, SecMap (w.alloc (.map es clock)) w.heap.size L) (size : Nat) :
    CrMid W (((W.alloc (.map es clock)).alloc (.cells (leftCells size W.heap.size) 90)).alloc (.cells #[.pointer (some ⟨W.heap.size + 1, 0, none⟩)] 30)).drew L size W.heap.size (W.heap.size + 1) (W.heap.size + 1 + 1) := by
  obtain ⟨h1, h2, h3, h4⟩ := three W (.map es clock) (.cells (leftCells size W.heap.size) 90) (.cells #[.pointer (some ⟨W.heap.size + 1, 0, none⟩)] 30)
  exact ⟨(h W).keep (h1.trans (heap_alloc_new W _).symm), h2, h3, h4, by omega, by omega, by omega⟩
set_option maxRecDepth 8000 in
theorem mid_b (W : World) {es : Array MapEntry} {clock : Nat} {L : Nat → List UInt8} (h : ∀ w : World, SecMap (w.alloc (.map es clock)) w.heap.size L) (size : Nat) :
    CrMid W (((W.alloc (.map es clock)).alloc (.cells #[.pointer (some ⟨W.heap.size + 1 + 1, 0, none⟩)] 30)).alloc (.cells (leftCells size W.heap.size) 90)).drew L size W.heap.size (W.heap.size + 1 + 1) (W.heap.size + 1) := by
  obtain ⟨h1, h2, h3, h4⟩ := three W (.map es clock) (.cells #[.pointer (some ⟨W.heap.size + 1 + 1, 0, none⟩)] 30) (.cells (leftCells size W.heap.size) 90)
  exact ⟨(h W).keep (h1.trans (heap_alloc_new W _).symm), h3, h2, h4, by omega, by omega, by omega⟩
set_option maxRecDepth 8000 in
theorem mid_c (W : World) {es : Array MapEntry} {clock : Nat} {L : Nat → List UInt8} (h : ∀ w : World, SecMap (w.alloc (.map es clock)) w.heap.size L) (size : Nat) :
    CrMid W (((W.alloc (.cells #[.pointer (some ⟨W.heap.size + 1 + 1, 0, none⟩)] 30)).alloc (.map es clock)).alloc (.cells (leftCells size (W.heap.size + 1)) 90)).drew L size (W.heap.size + 1) (W.heap.size + 1 + 1) W.heap.size := by
  obtain ⟨h1, h2, h3, h4⟩ := three W (.cells #[.pointer (some ⟨W.heap.size + 1 + 1, 0, none⟩)] 30) (.map es clock) (.cells (leftCells size (W.heap.size + 1)) 90)
  have h0 := h (W.alloc (.cells #[.pointer (some ⟨W.heap.size + 1 + 1, 0, none⟩)] 30))
  simp only [World.size_alloc] at h0
  exact ⟨h0.keep (h2.trans (by have := heap_alloc2_new W (.cells #[.pointer (some ⟨W.heap.size + 1 + 1, 0, none⟩)] 30) (.map es clock); exact this.symm)), h3, h1, h4, by omega, by omega, by omega⟩
def CrPost (f : Nat → Nat → Nat → Act) (W : World) (L : Nat → List UInt8) (size : Nat) (e : Exit) (a : Act) (W' : World) : Prop :=
  e = .normal ∧ ∃ m p' b6, a = f m p' b6 ∧ CrMid W W' L size m p' b6
set_option maxRecDepth 100000 in
set_option maxHeartbeats 4000000 in
theorem crash_ok {w : World} {base p : Nat} {pl : Pl} {D : Dk} (h : DiskAt w base p pl D) (hN : D.waits.length ≤ 1000000) (c : Cr) (A : Option Addr) (cap : Nat) (hr : RdB w A c.keep) (hc0 : 0 ≤ c.bytes) (hc5 : c.bytes ≤ 512) :
    Calls Try.prog 25 #[.pointer (some ⟨p, 0, none⟩), c.val A cap] w fun e w' => ∃ p' m, e = .returned (.tuple #[.pointer (some ⟨p', 0, none⟩), .int .i64 0]) ∧ DiskAt w' w.heap.size p' (leftPl m) (D.crashed c) ∧ Below w.heap.size w w' := by
  have hz8 := z84
  have hFw : ∀ f, Fence.wide.fn f := fun _ => trivial
  have h1 : decide (c.bytes < 0) = false := by simpa using hc0
  have h2 : decide (512 < c.bytes) = false := by simpa using hc5
  have H := Lib.hid h
  have H1 := Lib.hid (h.alloc (.cells #[.slice A c.keep.length cap, .int .i64 c.torn, .int .i64 c.bytes] 62))
  have B3 := Lib.hid (Blk.new w 62 #[.slice A c.keep.length cap, .int .i64 c.torn, .int .i64 c.bytes])
  have BL := Lib.hid ((Below.refl w.heap.size w).alloc (Nat.le_refl _) (.cells #[.slice A c.keep.length cap, .int .i64 c.torn, .int .i64 c.bytes] 62))
  have SZ := Lib.hid (show (w.alloc (.cells #[.slice A c.keep.length cap, .int .i64 c.torn, .int .i64 c.bytes] 62)).heap.size = w.heap.size + 1 by simp)
  have HC0 := Lib.hid hc0
  have HC5 := Lib.hid hc5
  have HR := Lib.hid hr
  unfold Cr.val
  clear h hr hc0 hc5
  refine (callsIn_wide (n := 4)).1 (callsIn_of_wp_marks Try.func25 rfl trivial ?_ rfl)
  simp only [Try.ntmps25, List.size_toArray, List.length_cons, List.length_nil, Nat.reduceAdd, Nat.reduceSub, Array.replicate_succ, Array.replicate_zero, List.push_toArray, List.append_toArray, List.nil_append, List.cons_append]
  gi_wp2_with (gi_at_call 39; refine ((callsIn_wide (n := 3)).2 (there_at H1.out)).mono ?_; rintro e w' ⟨rfl, rfl⟩)
  generalize w.alloc (.cells #[.slice A c.keep.length cap, .int .i64 c.torn, .int .i64 c.bytes] 62) = W at H1 B3 BL SZ ⊢
  obtain ⟨es, clock, hes, hcl⟩ := H1.out.map.clone
  have HES := Lib.hid hes
  have HCL := Lib.hid hcl
  clear hes hcl h1 h2
  refine wpIn_mono (Q := CrPost (fun m p' b6 => { tmps := #[.pointer (some ⟨p, 0, none⟩), .agg #[.slice A c.keep.length cap, .int .i64 c.torn, .int .i64 c.bytes], undef, .pointer (some ⟨w.heap.size, 0, none⟩), .pointer none, .int .i64 0, .pointer (some ⟨b6, 0, none⟩), undef, undef, .pointer (some ⟨p, 0, none⟩), .bool true, .bool false, .pointer (some ⟨w.heap.size, 2, none⟩), .int .i64 c.bytes, .bool false, .bool false, .pointer (some ⟨w.heap.size, 2, none⟩), .int .i64 c.bytes, .bool false, .bool false, .pointer (some ⟨p, 0, none⟩), .pointer (some ⟨p, 0, none⟩), .pointer (some ⟨p, 0, none⟩), .int .i64 (D.size : Int), .pointer (some ⟨p, 0, none⟩), .pointer (some ⟨p, 0, none⟩), .pointer (some ⟨p, 1, none⟩), .map (some pl.m), .map (some m), .agg (leftCells D.size m), .pointer (some ⟨p', 0, none⟩), undef, undef, undef, undef, undef, undef, undef, undef, undef, undef, undef, undef, undef, undef], defers := [] }) W D.lasts D.size) ?reg ?rest
  case reg =>
    refine wpIn_region_out (S := fun w' => w'.cell? ⟨p, 0, none⟩ = some (.int .i64 (D.size : Int)) ∧ w'.cell? ⟨p, 1, none⟩ = some (.map (some pl.m))) (by kernel_rfl) ⟨H1.out.drew.c0, H1.out.drew.c1⟩ (fun hHeld => ?_)
    refine wpAnyH_take (i := 0) (v := ?v1) rfl (by kernel_rfl) (by kernel_rfl) (by kernel_rfl) (fun _ _ _ h => h) (Or.inl ⟨by rfl, ?hy1⟩) hHeld ?rest1
    case hy1 =>
      intro w' hSw
      try dsimp only at hSw
      go_simp
      first | done | with_reducible rfl
    try simp only [Act.put, zq1, zq3, zq4, zq5, zq6]
    refine wpAnyH_take (i := 1) (v := ?v2) rfl (by kernel_rfl) (by kernel_rfl) (by kernel_rfl) (fun _ _ _ h => h) (Or.inl ⟨by rfl, ?hy2⟩) hHeld ?rest2
    case hy2 =>
      intro w' hSw
      try dsimp only at hSw
      go_simp
      first | done | with_reducible rfl
    try simp only [Act.put, zq1, zq2, zq3, zq4, zq5, zq6]
    refine wpAnyH_take (i := 2) (v := ?v3) rfl (by kernel_rfl) (by kernel_rfl) (by kernel_rfl) (fun _ _ _ h => h) (Or.inl ⟨by rfl, ?hy3⟩) hHeld ?rest3
    case hy3 =>
      intro w' hSw
      try dsimp only at hSw
      go_simp
      first | done | with_reducible rfl
    try simp only [Act.put, zq1, zq2, zq3, zq4, zq5, zq6]
    refine wpAnyH_take (i := 3) (v := ?v4) rfl (by kernel_rfl) (by kernel_rfl) (by kernel_rfl) (fun _ _ _ h => h) (Or.inl ⟨by rfl, ?hy4⟩) hHeld ?rest4
    case hy4 =>
      intro w' hSw
      try dsimp only at hSw
      go_simp
      first | done | with_reducible rfl
    try simp only [Act.put, zq1, zq2, zq3, zq4, zq5, zq6]
    refine wpAnyH_take (i := 4) (v := ?v5) rfl (by kernel_rfl) (by kernel_rfl) (by kernel_rfl) (fun _ _ _ h => h) (Or.inl ⟨by rfl, ?hy5⟩) hHeld ?rest5
    case hy5 =>
      intro w' hSw
      try dsimp only at hSw
      go_simp
      first | done | with_reducible rfl
    try simp only [Act.put, zq1, zq2, zq3, zq4, zq5, zq6]
    refine wpAnyH_take (i := 5) (v := ?v6) rfl (by kernel_rfl) (by kernel_rfl) (by kernel_rfl) (fun _ _ _ h => h) (Or.inl ⟨by rfl, ?hy6⟩) hHeld ?rest6
    case hy6 =>
      intro w' hSw
      try dsimp only at hSw
      go_simp
      first | done | with_reducible rfl
    try simp only [Act.put, zq1, zq2, zq3, zq4, zq5, zq6]
    refine wpAnyH_take (i := 6) (v := ?v7) rfl (by kernel_rfl) (by kernel_rfl) (by kernel_rfl) (fun _ _ _ h => h) (Or.inl ⟨by rfl, ?hy7⟩) hHeld ?rest7
    case hy7 =>
      intro w' hSw
      try dsimp only at hSw
      go_simp
      first | done | with_reducible rfl
    try simp only [Act.put, zq1, zq2, zq3, zq4, zq5, zq6]
    refine wpAnyH_take (i := 7) (v := ?v8) rfl (by kernel_rfl) (by kernel_rfl) (by kernel_rfl) (fun _ _ _ h => h) (Or.inl ⟨by rfl, ?hy8⟩) hHeld ?rest8
    case hy8 =>
      intro w' hSw
      try dsimp only at hSw
      go_simp
      first | done | with_reducible rfl
    try simp only [Act.put, zq1, zq2, zq3, zq4, zq5, zq6]
    refine wpAnyH_ready (rs := [8, 11]) (by kernel_rfl) (by simp) ?_
    refine AllReadyH.cons (by rfl) (fun K hK => ?_) (AllReadyH.cons (by rfl) (fun K hK => ?_) AllReadyH.nil)
    · go_simp
      refine (clone73 pl.m es clock _ ?_).mono ?_
      · exact HES.out
      rintro e w5 ⟨rfl, rfl⟩
      go_wp2_with fail
      refine hK.out _ _ ⟨(H1.out.drew.alloc _).c0, (H1.out.drew.alloc _).c1⟩ (fun hHeld => ?_)
      clear hK K
      try simp only [Act.put, zq1, zq2, zq3, zq4, zq5, zq6]
      refine wpAnyH_take (i := 9) (v := ?v9) rfl (by kernel_rfl) (by kernel_rfl) (by kernel_rfl) (fun _ _ _ h => h) (Or.inl ⟨by rfl, ?hy9⟩) hHeld ?rest9
      case hy9 =>
        intro w' hSw
        try dsimp only at hSw
        go_simp
        first | done | with_reducible rfl
      try simp only [Act.put, zq1, zq2, zq3, zq4, zq5, zq6]
      refine wpAnyH_ready (rs := [10, 11]) (by kernel_rfl) (by simp) ?_
      refine AllReadyH.cons (by rfl) (fun K hK => ?_) (AllReadyH.cons (by rfl) (fun K hK => ?_) AllReadyH.nil)
      · go_simp
        refine hK.out _ _ ⟨((H1.out.drew.alloc _).alloc _).c0, ((H1.out.drew.alloc _).alloc _).c1⟩ (fun hHeld => ?_)
        clear hK K
        try simp only [Act.put, zq1, zq2, zq3, zq4, zq5, zq6]
        refine wpAnyH_ready (rs := [11]) (by kernel_rfl) (by simp) ?_
        refine AllReadyH.cons (by rfl) (fun K hK => ?_) AllReadyH.nil
        go_simp
        refine hK.out _ _ ⟨(((H1.out.drew.alloc _).alloc _).alloc _).c0, (((H1.out.drew.alloc _).alloc _).alloc _).c1⟩ (fun hHeld => ?_)
        clear hK K
        try simp only [Act.put, zq1, zq2, zq3, zq4, zq5, zq6]
        refine wpAnyH_ready (rs := [12]) (by kernel_rfl) (by simp) ?_
        refine AllReadyH.cons (by rfl) (fun K hK => ?_) AllReadyH.nil
        go_simp
        refine hK.out _ _ ⟨(((H1.out.drew.alloc _).alloc _).alloc _).c0, (((H1.out.drew.alloc _).alloc _).alloc _).c1⟩ (fun hHeld => ?_)
        clear hK K
        try simp only [Act.put, zq1, zq2, zq3, zq4, zq5, zq6]
        refine wpAnyH_done (by kernel_rfl) ?_ _
        refine OnlyN.normal ?_
        exact ⟨rfl, _, _, _, rfl, mid_a W HCL.out D.size⟩
      · go_simp
        refine hK.out _ _ ⟨((H1.out.drew.alloc _).alloc _).c0, ((H1.out.drew.alloc _).alloc _).c1⟩ (fun hHeld => ?_)
        clear hK K
        try simp only [Act.put, zq1, zq2, zq3, zq4, zq5, zq6]
        refine wpAnyH_ready (rs := [10]) (by kernel_rfl) (by simp) ?_
        refine AllReadyH.cons (by rfl) (fun K hK => ?_) AllReadyH.nil
        go_simp
        refine hK.out _ _ ⟨(((H1.out.drew.alloc _).alloc _).alloc _).c0, (((H1.out.drew.alloc _).alloc _).alloc _).c1⟩ (fun hHeld => ?_)
        clear hK K
        try simp only [Act.put, zq1, zq2, zq3, zq4, zq5, zq6]
        refine wpAnyH_ready (rs := [12]) (by kernel_rfl) (by simp) ?_
        refine AllReadyH.cons (by rfl) (fun K hK => ?_) AllReadyH.nil
        go_simp
        refine hK.out _ _ ⟨(((H1.out.drew.alloc _).alloc _).alloc _).c0, (((H1.out.drew.alloc _).alloc _).alloc _).c1⟩ (fun hHeld => ?_)
        clear hK K
        try simp only [Act.put, zq1, zq2, zq3, zq4, zq5, zq6]
        refine wpAnyH_done (by kernel_rfl) ?_ _
        refine OnlyN.normal ?_
        exact ⟨rfl, _, _, _, rfl, mid_b W HCL.out D.size⟩
    · go_simp
      refine hK.out _ _ ⟨(H1.out.drew.alloc _).c0, (H1.out.drew.alloc _).c1⟩ (fun hHeld => ?_)
      clear hK K
      try simp only [Act.put, zq1, zq2, zq3, zq4, zq5, zq6]
      refine wpAnyH_ready (rs := [8]) (by kernel_rfl) (by simp) ?_
      refine AllReadyH.cons (by rfl) (fun K hK => ?_) AllReadyH.nil
      go_simp
      refine (clone73 pl.m es clock _ ?_).mono ?_
      · exact ((Below.heap_alloc _ _ _ H1.out.map.lt).trans HES.out)
      rintro e w5 ⟨rfl, rfl⟩
      go_wp2_with fail
      refine hK.out _ _ ⟨((H1.out.drew.alloc _).alloc _).c0, ((H1.out.drew.alloc _).alloc _).c1⟩ (fun hHeld => ?_)
      clear hK K
      try simp only [Act.put, zq1, zq2, zq3, zq4, zq5, zq6]
      refine wpAnyH_take (i := 9) (v := ?v10) rfl (by kernel_rfl) (by kernel_rfl) (by kernel_rfl) (fun _ _ _ h => h) (Or.inl ⟨by rfl, ?hy10⟩) hHeld ?rest10
      case hy10 =>
        intro w' hSw
        try dsimp only at hSw
        go_simp
        first | done | with_reducible rfl
      try simp only [Act.put, zq1, zq2, zq3, zq4, zq5, zq6]
      refine wpAnyH_ready (rs := [10]) (by kernel_rfl) (by simp) ?_
      refine AllReadyH.cons (by rfl) (fun K hK => ?_) AllReadyH.nil
      go_simp
      refine hK.out _ _ ⟨(((H1.out.drew.alloc _).alloc _).alloc _).c0, (((H1.out.drew.alloc _).alloc _).alloc _).c1⟩ (fun hHeld => ?_)
      clear hK K
      try simp only [Act.put, zq1, zq2, zq3, zq4, zq5, zq6]
      refine wpAnyH_ready (rs := [12]) (by kernel_rfl) (by simp) ?_
      refine AllReadyH.cons (by rfl) (fun K hK => ?_) AllReadyH.nil
      go_simp
      refine hK.out _ _ ⟨(((H1.out.drew.alloc _).alloc _).alloc _).c0, (((H1.out.drew.alloc _).alloc _).alloc _).c1⟩ (fun hHeld => ?_)
      clear hK K
      try simp only [Act.put, zq1, zq2, zq3, zq4, zq5, zq6]
      refine wpAnyH_done (by kernel_rfl) ?_ _
      refine OnlyN.normal ?_
      exact ⟨rfl, _, _, _, rfl, mid_c W HCL.out D.size⟩
  case rest =>
    rintro e a' W1 ⟨rfl, m, p', b6, rfl, hm, hp, hb, hbl, gm, gp, gb⟩
    have HM := Lib.hid hm
    have HP := Lib.hid hp
    have HB := Lib.hid hb
    have B3b := Lib.hid (B3.out.below hbl B3.out.lt)
    have H1b := Lib.hid (H1.out.below hbl)
    have BLb := Lib.hid (BL.out.trans (hbl.mono BL.out.size))
    have GM := Lib.hid gm
    have GP := Lib.hid gp
    have GB := Lib.hid gb
    clear hm hp hb hbl gm gp gb HCL HES
    gi_wp2_with (gi_at_call 41; refine ((callsIn_wide (n := 3)).2 (waiting_any _ _)).mono ?_; rintro e w' ⟨rfl, rfl⟩)
    have HM2 := Lib.hid (HM.out.keep (Below.heap_alloc W1 (.cells #[.pointer (some ⟨p, 0, none⟩)] 30) _ HM.out.lt))
    have HP2 := Lib.hid (HP.out.alloc (.cells #[.pointer (some ⟨p, 0, none⟩)] 30))
    have HB2 := Lib.hid (HB.out.alloc (.cells #[.pointer (some ⟨p, 0, none⟩)] 30))
    have B3c := Lib.hid (B3b.out.alloc (.cells #[.pointer (some ⟨p, 0, none⟩)] 30))
    have HD := Lib.hid (H1b.out.alloc (.cells #[.pointer (some ⟨p, 0, none⟩)] 30))
    have BLc := Lib.hid (BLb.out.alloc BLb.out.size (.cells #[.pointer (some ⟨p, 0, none⟩)] 30))
    have BD := Lib.hid (Blk.new W1 30 #[.pointer (some ⟨p, 0, none⟩)])
    generalize W1.alloc (.cells #[.pointer (some ⟨p, 0, none⟩)] 30) = W2 at HM2 HP2 HB2 B3c HD BLc BD ⊢
    clear HM HP HB B3b H1b BLb
    have mp : m ≠ p' := by rintro rfl; obtain ⟨es, ck, hm, _⟩ := HM2.out; have hc := HP2.out; unfold Blk at hc; rw [hc] at hm; cases hm
    have mb : m ≠ b6 := by rintro rfl; obtain ⟨es, ck, hm, _⟩ := HM2.out; have hc := HB2.out; unfold Blk at hc; rw [hc] at hm; cases hm
    have m3 : m ≠ w.heap.size := by have := GM.out; have := SZ.out; omega
    have wm : ∀ k, pl.wv.ownBlock = some k → k ≠ m := fun k hk e => by have := (H.out.row.lt k hk).2; have := GM.out; have := SZ.out; omega
    have WM := Lib.hid wm
    clear wm
    refine range_waiting HD.out hN rfl ((BD.out.cell 0).trans rfl) rfl (by omega)
      (fun xs W => SecMap W m (layC (fun i => c.kn i) D.lasts (wis xs)) ∧ Fr (· = m) W2 W)
      ((own_sec HM2.out.lt (fun xs => layC (fun i => c.kn i) D.lasts (wis xs))).and (own_fr (Nat.le_refl _)))
      ⟨HM2.out, Fr.refl _ _⟩
      (fun x b => { tmps := #[.pointer (some ⟨p, 0, none⟩), .agg #[.slice A c.keep.length cap, .int .i64 c.torn, .int .i64 c.bytes], undef, .pointer (some ⟨w.heap.size, 0, none⟩), .pointer none, .int .i64 0, .pointer (some ⟨b6, 0, none⟩), .int .i64 (x.i : Int), .pointer (some ⟨b, 0, none⟩), .pointer (some ⟨p, 0, none⟩), .bool true, .bool false, .pointer (some ⟨w.heap.size, 2, none⟩), .int .i64 c.bytes, .bool false, .bool false, .pointer (some ⟨w.heap.size, 2, none⟩), .int .i64 c.bytes, .bool false, .bool false, .pointer (some ⟨p, 0, none⟩), .pointer (some ⟨p, 0, none⟩), .pointer (some ⟨p, 0, none⟩), .int .i64 (D.size : Int), .pointer (some ⟨p, 0, none⟩), .pointer (some ⟨p, 0, none⟩), .pointer (some ⟨p, 1, none⟩), .map (some pl.m), .map (some m), .agg (leftCells D.size m), .pointer (some ⟨p', 0, none⟩), .pointer (some ⟨p, 0, none⟩), .func (.func 63) #[] #[.pointer (some ⟨W1.heap.size, 0, none⟩)], .int .i64 (x.i : Int), wv x.x, undef, undef, undef, undef, undef, undef, undef, undef, undef, undef], defers := [] })
      ?assign ?body (fun pre W h => h.2.size) ?done
    case assign =>
      intro l x W K hK
      have hxz : x.x.2.length = zs.length := by rw [x.len, zs_length]
      have hwl : (wc x.x).length = 513 := wc_length x.x x.len
      have HKK := Lib.hid hK
      clear hK
      gi_wp2
      exact HKK.out
    case body =>
      rintro l pre x b W _ ⟨i1, i2⟩ hb hbw
      have XL := Lib.hid x.len
      have I1 := Lib.hid i1
      have I2 := Lib.hid i2
      have HW := Lib.hid hbw
      have BN := Lib.hid hb
      have KR := Lib.hid (kn_le c HC0.out HC5.out x.i)
      have LL := Lib.hid (layC_length (fun i => c.kn i) (kn_le c HC0.out HC5.out) (wis pre) D.lasts HD.out.lens (wis_len pre) x.x.1)
      have WS := Lib.hid (wis_snoc pre x)
      have LS := Lib.hid (layC_snoc (fun i => c.kn i) D.lasts (wis pre) (x.i, x.x))
      have CB := Lib.hid (i2.keepBlk HB2.out (Ne.symm mb))
      have CP := Lib.hid (i2.keepBlk HP2.out (Ne.symm mp))
      have C3 := Lib.hid (i2.keepBlk B3c.out (Ne.symm m3))
      have RB : Hid (RdB W A c.keep) := fun j hj => by
        obtain ⟨b', off', e', hc'⟩ := HR.out j hj
        have hlt := cell_lt hc'
        exact ⟨b', off', e', (World.cell?_of_block ((i2.block b' (Nat.lt_of_lt_of_le hlt BLc.out.size) (fun e => by have := GM.out; have := SZ.out; simp only at hlt; omega)).trans (BLc.out.block b' hlt))).trans hc'⟩
      have xi : x.i ≤ 1000000 := by have := x.lt; omega
      clear i1 i2 hbw hb
      gi_wp2_with fail
      refine wpIn_region_round (S := fun w' => w'.cell? ⟨b6, 0, none⟩ = some (.pointer (some ⟨p', 0, none⟩)) ∧ w'.cell? ⟨p', 1, none⟩ = some (.map (some m)) ∧ w'.cell? ⟨w.heap.size, 0, none⟩ = some (.slice A c.keep.length cap) ∧ w'.cell? ⟨w.heap.size, 1, none⟩ = some (.int .i64 c.torn) ∧ w'.cell? ⟨w.heap.size, 2, none⟩ = some (.int .i64 c.bytes) ∧ w'.rangeAt b 0 (wc x.x)) (by kernel_rfl) (noDefer (by kernel_rfl)) ⟨(Blk.cell CB.out 0).trans rfl, (Blk.cell CP.out 1).trans rfl, (Blk.cell C3.out 0).trans rfl, (Blk.cell C3.out 1).trans rfl, (Blk.cell C3.out 2).trans rfl, Blk.rangeAt HW.out⟩ (fun hHeld => ?_)
      refine wpAnyH_take (i := 0) (v := ?v11) rfl (by kernel_rfl) (by kernel_rfl) (by kernel_rfl) (fun _ _ _ h => h) (Or.inl ⟨by rfl, ?hy11⟩) hHeld ?rest11
      case hy11 =>
        intro w' hSw
        try dsimp only at hSw
        go_simp
        first | done | with_reducible rfl
      try simp only [Act.put, zq1, zq3, zq4, zq5, zq6]
      refine wpAnyH_take (i := 1) (v := ?v12) rfl (by kernel_rfl) (by kernel_rfl) (by kernel_rfl) (fun _ _ _ h => h) (Or.inl ⟨by rfl, ?hy12⟩) hHeld ?rest12
      case hy12 =>
        intro w' hSw
        try dsimp only at hSw
        go_simp
        first | done | with_reducible rfl
      try simp only [Act.put, zq1, zq2, zq3, zq4, zq5, zq6]
      refine wpAnyH_take (i := 2) (v := ?v13) rfl (by kernel_rfl) (by kernel_rfl) (by kernel_rfl) (fun _ _ _ h => h) (Or.inl ⟨by rfl, ?hy13⟩) hHeld ?rest13
      case hy13 =>
        intro w' hSw
        try dsimp only at hSw
        go_simp
        first | done | with_reducible rfl
      try simp only [Act.put, zq1, zq2, zq3, zq4, zq5, zq6]
      refine wpAnyH_take (i := 3) (v := ?v14) rfl (by kernel_rfl) (by kernel_rfl) (by kernel_rfl) (fun _ _ _ h => h) (Or.inl ⟨by rfl, ?hy14⟩) hHeld ?rest14
      case hy14 =>
        intro w' hSw
        try dsimp only at hSw
        go_simp
        first | done | with_reducible rfl
      try simp only [Act.put, zq1, zq2, zq3, zq4, zq5, zq6]
      refine wpAnyH_take (i := 4) rfl (by kernel_rfl) (by kernel_rfl) (by kernel_rfl) (fun _ _ _ h => h) (yieldsIf_load_mid (by rfl) 95 _ (by rfl) b 0 (by rfl) (wc x.x) _ (fun w' hSw => hSw.2.2.2.2.2) Try.underlying95 rfl (by rw [wc_length _ XL.out]; exact size84)) hHeld ?_
      try simp only [Act.put, zq1, zq2, zq3, zq4, zq5, zq6]
      refine wpAnyH_take (i := 5) (v := ?v15) rfl (by kernel_rfl) (by kernel_rfl) (by kernel_rfl) (fun _ _ _ h => h) (Or.inl ⟨by rfl, ?hy15⟩) hHeld ?rest15
      case hy15 =>
        intro w' hSw
        try dsimp only at hSw
        go_simp
        first | done | with_reducible rfl
      try simp only [Act.put, zq1, zq2, zq3, zq4, zq5, zq6]
      refine wpAnyH_take (i := 6) (v := ?v16) rfl (by kernel_rfl) (by kernel_rfl) (by kernel_rfl) (fun _ _ _ h => h) (Or.inl ⟨by rfl, ?hy16⟩) hHeld ?rest16
      case hy16 =>
        intro w' hSw
        try dsimp only at hSw
        go_simp
        first | done | with_reducible rfl
      try simp only [Act.put, zq1, zq2, zq3, zq4, zq5, zq6]
      refine wpAnyH_ready (rs := [7]) (by kernel_rfl) (by simp) ?_
      refine AllReadyH.cons (by rfl) (fun K hK => ?_) AllReadyH.nil
      go_simp
      refine (kept_nat _ c A cap (show RdB W.drew A c.keep from RB.out) HC0.out HC5.out x.i xi).mono ?_
      rintro e w5 ⟨rfl, hb5⟩
      have CB5 := Lib.hid ((show Blk W.drew b6 _ _ from CB.out).below hb5 CB.out.lt)
      have CP5 := Lib.hid ((show Blk W.drew p' _ _ from CP.out).below hb5 CP.out.lt)
      have C35 := Lib.hid ((show Blk W.drew w.heap.size _ _ from C3.out).below hb5 C3.out.lt)
      have HW5 := Lib.hid ((show Blk W.drew b _ _ from HW.out).below hb5 HW.out.lt)
      have I15 := Lib.hid ((show SecMap W.drew m _ from I1.out).keep (hb5.block m I1.out.lt))
      have F5 := Lib.hid (show Fr (· = m) W w5 from (Fr.refl _ W).drew.below hb5)
      clear hb5
      go_wp2_with fail
      refine hK.out _ _ ⟨(Blk.cell CB5.out 0).trans rfl, (Blk.cell CP5.out 1).trans rfl, (Blk.cell C35.out 0).trans rfl, (Blk.cell C35.out 1).trans rfl, (Blk.cell C35.out 2).trans rfl, Blk.rangeAt HW5.out⟩ (fun hHeld => ?_)
      clear hK K
      try simp only [Act.put, zq1, zq2, zq3, zq4, zq5, zq6]
      refine wpAnyH_ready (rs := [8]) (by kernel_rfl) (by simp) ?_
      refine AllReadyH.cons (by rfl) (fun K hK => ?_) AllReadyH.nil
      go_simp
      refine (lay_any w5 m _ x.x (c.kn x.i) I15.out XL.out LL.out KR.out).mono ?_
      rintro e w6 ⟨rfl, sm6, fr6⟩
      have SM6 := Lib.hid sm6
      have FR6 := Lib.hid (F5.out.trans fr6)
      have CB6 := Lib.hid (fr6.keepBlk CB5.out (Ne.symm mb))
      have CP6 := Lib.hid (fr6.keepBlk CP5.out (Ne.symm mp))
      have C36 := Lib.hid (fr6.keepBlk C35.out (Ne.symm m3))
      have HW6 := Lib.hid (fr6.keepBlk HW5.out (by have := HM2.out.lt; have := BN.out; omega))
      clear sm6 fr6
      go_wp2_with fail
      refine hK.out _ _ ⟨(Blk.cell CB6.out 0).trans rfl, (Blk.cell CP6.out 1).trans rfl, (Blk.cell C36.out 0).trans rfl, (Blk.cell C36.out 1).trans rfl, (Blk.cell C36.out 2).trans rfl, Blk.rangeAt HW6.out⟩ (fun hHeld => ?_)
      clear hK K
      try simp only [Act.put, zq1, zq2, zq3, zq4, zq5, zq6]
      refine wpAnyH_done (by kernel_rfl) ?_ _
      refine OnlyN.normal ?_
      refine ⟨rfl, keepsFrom_fr FR6.out HM2.out.lt, fun k hk => FR6.out.block k ?_ (WM.out k hk), ?_, I2.out.trans FR6.out⟩
      · exact Nat.lt_of_lt_of_le (HD.out.row.lt k hk).2 I2.out.size
      · rw [WS.out, LS.out]
        exact SM6.out
    case done =>
      rintro B xs W hB hxs hxi ⟨i1, i2⟩ hD
      rw [wis_all hxs hxi] at i1
      have I1 := Lib.hid i1
      have I2 := Lib.hid i2
      have CB := (i2.keepBlk HB2.out (Ne.symm mb))
      have cb0 := (CB.cell 0).trans (show (#[.pointer (some ⟨p', 0, none⟩)] : Array Value)[0]? = some (.pointer (some ⟨p', 0, none⟩)) from rfl)
      have CP := Lib.hid (i2.keepBlk HP2.out (Ne.symm mp))
      have HDB := Lib.hid hD
      have HBB := Lib.hid hB
      clear i1 i2 CB hD hB hxs hxi
      gi_wp2
      refine ⟨by simp, .inl ⟨_, _, rfl, run_takeDeferred HDB.out, ?_⟩⟩
      have hl := Dk.laid_len H.out (fun i => c.kn i) (kn_le c HC0.out HC5.out)
      have hmB : m ≠ B := by have := HM2.out.lt; have := HBB.out; omega
      have hpB : p' ≠ B := by have := HP2.out.lt; have := HBB.out; omega
      refine ⟨_, results_tmp2 rfl _ _ _, p', m, rfl, ?_, (BLc.out.trans (I2.out.to_below (B := w.heap.size) (fun k e => by have := GM.out; have := SZ.out; omega) BLc.out.size)).trans (belowK_b (w := w) (Nat.le_refl _) _ B _ _ (Nat.le_trans BLc.out.size HBB.out) HDB.out rfl rfl)⟩
      exact {
        blk := (World.putObj_heap_other hpB).trans CP.out
        map := I1.out.keep (World.putObj_heap_other hmB)
        row := World.ownsRow_nil _ _ _ _
        set := fun _ => rfl
        bp := by have := GP.out; have := SZ.out; omega
        bm := by have := GM.out; have := SZ.out; show w.heap.size ≤ m; omega
        bf := by simp [leftPl]
        ne := by simp [leftPl]
        size1 := H.out.size1
        size2 := H.out.size2
        lens := hl
        wlens := by simp [Dk.crashed]
        frm := Nat.le_refl _ }
end Go.Proofs.Ytjfcmoappbfnjaa
namespace Go.Proofs.Ytjfcmoappbfnjaa
open List renaming getElem_toArray → zq1, getElem_cons_succ → zq2, getElem_cons_zero → zq3, setIfInBounds_toArray → zq4, set_cons_zero → zq5, set_cons_succ → zq6
open Go.RowKit
section
variable (w : World)
set_option maxRecDepth 8000 in
theorem eq5 (d : Nat) (a b : UInt8) : (Op.equalIn (d + 1) 5 (.int .u8 (a.toNat : Int)) (.int .u8 (b.toNat : Int))).run Try.prog w = .ok (a == b) w := by
  have e : (((a.toNat : Nat) : Int) == ((b.toNat : Nat) : Int)) = (a == b) := by
    rcases Decidable.em (a = b) with rfl | h
    · simp
    · have h2 : a.toNat ≠ b.toNat := fun e => h (UInt8.toNat_inj.1 e)
      have h3 : ((a.toNat : Nat) : Int) ≠ ((b.toNat : Nat) : Int) := by omega
      rw [beq_eq_false_iff_ne.2 h, beq_eq_false_iff_ne.2 h3]
  simp [Op.equalIn, run_underlying Try.underlying5, e]
set_option maxRecDepth 8000 in
theorem part5 (l : List UInt8) (i : Nat) (hi : i < l.length) : (part 5 (bv l).toArray i).run Try.prog w = .ok (.int .u8 ((l[i]'hi).toNat : Int)) w := by
  have hg : (bv l).toArray[i]? = some (.int .u8 ((l[i]'hi).toNat : Int)) := by
    simp [bv, hi]
  exact run_part_plain w (by kernel_rfl) hg
set_option maxRecDepth 8000 in
theorem eqItems_bv (d : Nat) (l l' : List UInt8) : ∀ is : List Nat, (∀ i ∈ is, i < l.length ∧ i < l'.length) →
    (Op.eqItems (d + 1) 5 1 (bv l).toArray (bv l').toArray is).run Try.prog w = .ok (is.all fun i => l[i]? == l'[i]?) w
  | [], _ => by simp [Op.eqItems]
  | i :: is, h => by
    obtain ⟨h1, h2⟩ := h i (by simp)
    simp only [Op.eqItems, Sem.run_bind, Nat.mul_one, part5 w l i h1, part5 w l' i h2, Result.andThen_ok, eq5]
    have e : ((l[i]? == l'[i]?) : Bool) = (l[i] == l'[i]) := by simp [h1, h2]
    rw [List.all_cons, e]
    cases hq : (l[i] == l'[i]) with
    | false => simp
    | true => simpa using eqItems_bv d l l' is (fun j hj => h j (by simp [hj]))
set_option maxRecDepth 8000 in
theorem all_range (l l' : List UInt8) (n : Nat) (h : l.length = n) (h' : l'.length = n) : ((List.range n).all fun i => l[i]? == l'[i]?) = (l == l') := by
  rcases Decidable.em (l = l') with rfl | hne
  · simp
  · rw [beq_eq_false_iff_ne.2 hne]
    refine Bool.eq_false_iff.2 (fun hall => hne (List.ext_getElem? (fun i => ?_)))
    rcases Nat.lt_or_ge i n with hi | hi
    · have := List.all_eq_true.1 hall i (List.mem_range.2 hi)
      simpa using this
    · rw [List.getElem?_eq_none (by omega), List.getElem?_eq_none (by omega)]
set_option maxRecDepth 8000 in
theorem info5 : ∃ i, Try.prog.info? 5 = some i := by
  cases h : Try.prog.info? 5 with
  | none => exact absurd (show (Try.prog.info? 5).isSome = true by kernel_rfl) (by simp [h])
  | some i => exact ⟨i, rfl⟩
end
end Go.Proofs.Ytjfcmoappbfnjaa

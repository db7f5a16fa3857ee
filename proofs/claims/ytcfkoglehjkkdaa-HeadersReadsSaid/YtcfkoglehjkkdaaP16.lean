/- law 2: DiskMakes, the walk. -/
import Derived.Test.YtcfkoglehjkkdaaP14
import Derived.Test.YtcfkoglehjkkdaaP10
import Derived.Test.YtcfkoglehjkkdaaP15
import Derived.Test.YtcfkoglehjkkdaaP12
namespace Go.Proofs.Ytcfkoglehjkkdaa.diskMakes
open Go.RowKit
attribute [local go_sem] Oper.semAt_some
set_option maxRecDepth 8000 in
theorem wrap_i64_of (x : Int) (h0 : 0 ≤ x) (h1 : x ≤ 9223372036854775807) : IntKind.i64.wrap x = x := by
  simp only [IntKind.wrap, IntKind.bits, IntKind.signed]
  simp
  omega
theorem rd77 (w : World) (t : TypeId) : Rd (w.alloc (.cells #[.int .u8 77] t)) (some ⟨w.heap.size, 0, none⟩) [77] := rd_new w 77 t rfl
theorem run_strB (w : World) {A : Option Addr} {c : Nat} {l : List UInt8} (hr : Rd w A l) : (convert 22 9 (.slice A l.length c)).run Try.prog w = .ok (.string (st l)) w := run_str w Try.underlying22 Try.underlying5 Try.underlying9 rfl hr
set_option maxRecDepth 8000 in
theorem cut_more (g k cap : Nat) (h : k + 1 ≤ cap) (hk : k ≤ 20000) (W : World) : (Instr.slice 22 (.slice (some ⟨g, 0, none⟩) k cap) none (some (.int .i64 ((k : Int) + 1))) none).run Try.prog W = .ok (.slice (some ⟨g, 0, none⟩) (k + 1) cap) W := by
  have hw2 : (0 : Int) ≤ (k : Int) + 1 := by omega
  have hw3 : (k : Int) + 1 ≤ (cap : Int) := by omega
  have hw4 : ((k : Int) + 1).toNat = k + 1 := by omega
  have hw1 : IntKind.i64.wrap ((k : Int) + 1) = (k : Int) + 1 := wrap_i64_of _ hw2 (by omega)
  go_simp
theorem secs_zs : ∀ s : Nat, secs (fun _ => zs) s = List.replicate (s * 512) 0
  | 0 => rfl
  | s + 1 => by
    rw [secs_succ, secs_zs s, zs, List.replicate_append_replicate]
    exact congrArg (fun n => List.replicate n (0 : UInt8)) (by omega)
theorem secs_take (l : List UInt8) (s : Nat) : ∀ k, k ≤ s → secs (ofL l s) k = l.take (k * 512)
  | 0, _ => by simp [secs]
  | k + 1, h => by
    rw [secs_succ, secs_take l s k (by omega), show (k + 1) * 512 = k * 512 + 512 by omega, List.take_add]
    unfold ofL chunk
    rw [if_pos (by omega)]
set_option maxRecDepth 8000 in
theorem secs_of (l : List UInt8) (s : Nat) (hl : l.length = s * 512) : secs (ofL l s) s = l := by
  rw [secs_take l s s (Nat.le_refl _), List.take_of_length_le (by omega)]
set_option maxRecDepth 8000 in
theorem made_rd (W : World) (N : Nat) : Rd (W.alloc (.cells (madeCells #[.int .u8 0] N) 5)) (some ⟨W.heap.size, 0, none⟩) (List.replicate N 0) := by
  have e : madeCells #[.int .u8 0] N = (bv (List.replicate N 0)).toArray := by
    rw [bv_replicate]
    apply Array.ext
    · simp [size_madeCells]
    · intro i h1 h2
      simp [madeCells, Nat.mod_one]
  rw [e]
  exact rd_blk (Blk.new W 5 (bv (List.replicate N 0)).toArray) 0 _ (fun j hj => by rw [Nat.zero_add, bv_get, List.getElem?_eq_getElem hj]; rfl)
set_option maxRecDepth 8000 in
theorem of_zero (w : World) (A : Option Addr) (n cap : Nat) (h : n = 0) :
    Calls Try.prog 27 #[.slice A n cap] w fun e w' => e = .returned (.tuple #[.pointer none, .int .i64 2]) ∧ w = w' := by
  subst h
  exact of_none w A cap
end Go.Proofs.Ytcfkoglehjkkdaa.diskMakes
namespace Go.Proofs.Ytcfkoglehjkkdaa
open Go.RowKit
theorem DiskAt.base {w : World} {base base' p : Nat} {pl : Pl} {D : Dk} (h : DiskAt w base p pl D) (hb : base' ≤ base) : DiskAt w base' p pl D :=
  { h with
    row := own_base h.row hb
    bp := Nat.le_trans hb h.bp
    bm := Nat.le_trans hb h.bm
    bf := fun b e => Nat.le_trans hb (h.bf b e) }
set_option maxRecDepth 8000 in
theorem results_begun {fn : Func} {o p q : Tmp} (h : fn.results = #[.tmp o, .cell p 33, .tmp q]) (tmps : Array Value) (w : World) (g : Nat) (cs : Array Value) (hl : cs.size = 4)
    (hp : tmps.getD p undef = .pointer (some ⟨g, 0, none⟩)) (hg : Blk w g 33 cs) : (results fn tmps).run Try.prog w = .ok (.tuple #[tmps.getD o undef, .agg cs, tmps.getD q undef]) w := by
  have hp' : tmps[p]?.getD undef = .pointer (some ⟨g, 0, none⟩) := by simpa using hp
  have hl := run_loadVar_row (P := Try.prog) w g 33 33 cs (0, 0) _ hg Try.underlying33 rfl (by rw [hl]; exact size43)
  simp [results, h, hp', asAddr, hl]
end Go.Proofs.Ytcfkoglehjkkdaa
namespace Go.Proofs.Ytcfkoglehjkkdaa
open Go.RowKit
attribute [local go_sem] Oper.semAt_some
/-- the first k of N bytes are those, again and again -/
def begK (l : List UInt8) (N k : Nat) : List UInt8 := (List.range N).map fun i => if i < k then l.getD (i % l.length) 0 else 0
def begB (l : List UInt8) (N : Nat) : List UInt8 := begK l N N
set_option maxRecDepth 8000 in
theorem begK_length (l : List UInt8) (N k : Nat) : (begK l N k).length = N := by simp [begK]
theorem begB_length (l : List UInt8) (N : Nat) : (begB l N).length = N := begK_length l N N
set_option maxRecDepth 8000 in
theorem begK_zero (l : List UInt8) (N : Nat) : begK l N 0 = List.replicate N 0 := by
  apply List.ext_getElem?
  intro i
  by_cases h : i < N
  · simp [begK, h]
  · simp [begK, h]
set_option maxRecDepth 8000 in
theorem begB_nil (N : Nat) : begB [] N = List.replicate N 0 := by
  apply List.ext_getElem?
  intro i
  by_cases h : i < N
  · simp [begB, begK, h]
  · simp [begB, begK, h]
set_option maxRecDepth 8000 in
theorem begK_set (l : List UInt8) (N k : Nat) (hk : k < N) (b : UInt8) (hb : l[k % l.length]? = some b) : (begK l N k).set k b = begK l N (k + 1) := by
  apply List.ext_getElem?
  intro i
  rw [List.getElem?_set]
  by_cases h : i < N
  · by_cases e : k = i
    · subst e
      simp [begK, h, List.getD_eq_getElem?_getD, hb]
    · rw [if_neg e]
      simp only [begK, List.getElem?_map, List.getElem?_range h, Option.map_some]
      congr 1
      by_cases h1 : i < k
      · rw [if_pos h1, if_pos (by omega)]
      · rw [if_neg h1, if_neg (by omega)]
  · rw [if_neg (by omega), List.getElem?_eq_none (by rw [begK_length]; omega), List.getElem?_eq_none (by rw [begK_length]; omega)]
set_option maxRecDepth 8000 in
theorem bv_set (S : List UInt8) (q : Nat) (x : UInt8) : (bv S).set q (.int .u8 (x.toNat : Int)) = bv (S.set q x) := by
  simp [bv, List.map_set]
set_option maxRecDepth 8000 in
theorem made_bv (N : Nat) : madeCells #[.int .u8 0] N = (bv (List.replicate N 0)).toArray := by
  rw [bv_replicate]
  apply Array.ext
  · simp [size_madeCells]
  · intro i h1 h2
    simp [madeCells, Nat.mod_one]
end Go.Proofs.Ytcfkoglehjkkdaa
namespace Go.Proofs.Ytcfkoglehjkkdaa
open Go.RowKit
attribute [local go_sem] Oper.semAt_some
/-- lasting bytes with the first k bytes of a sector's others -/
def laidF (l : List UInt8) (x : Nat × List UInt8) (k : Nat) : List UInt8 := splice l (512 * x.1) (x.2.take k)
set_option maxRecDepth 8000 in
theorem laidF_length (l : List UInt8) (x : Nat × List UInt8) (k : Nat) (h : 512 * x.1 + k ≤ l.length) (hx : x.2.length = 512) (hk : k ≤ 512) : (laidF l x k).length = l.length := by
  unfold laidF splice
  simp [List.length_take, hx]
  omega
set_option maxRecDepth 8000 in
theorem laidF_zero (l : List UInt8) (x : Nat × List UInt8) : laidF l x 0 = l := by
  simp [laidF, splice]
set_option maxRecDepth 8000 in
theorem laidF_set (l : List UInt8) (x : Nat × List UInt8) (k : Nat) (h : 512 * x.1 + (k + 1) ≤ l.length) (hk : k < x.2.length) :
    (bv (laidF l x k)).set (512 * x.1 + k) (.int .u8 ((x.2[k]).toNat : Int)) = bv (laidF l x (k + 1)) := by
  have e : (laidF l x k).set (512 * x.1 + k) x.2[k] = laidF l x (k + 1) := by
    have hx : (x.2.take (k + 1)) = x.2.take k ++ [x.2[k]] := by rw [List.take_add_one, List.getElem?_eq_getElem hk]; rfl
    have ht : (x.2.take k).length = k := by rw [List.length_take]; omega
    unfold laidF splice
    rw [hx, List.length_append, ht, List.set_append_right _ _ (by simp; omega)]
    have hd : (l.drop (512 * x.1 + k)) = l[512 * x.1 + k]'(by omega) :: l.drop (512 * x.1 + (k + 1)) := List.drop_eq_getElem_cons (by omega)
    have hl0 : (l.take (512 * x.1)).length = 512 * x.1 := by rw [List.length_take]; omega
    rw [hl0, Nat.add_sub_cancel_left, List.set_append_right _ _ (by omega), ht, Nat.sub_self, hd, List.set_cons_zero]
    simp only [List.append_assoc, List.cons_append, List.nil_append, List.length_cons, List.length_nil, Nat.zero_add]
  rw [← e]
  simp [bv, List.map_set]
set_option maxRecDepth 100000 in
set_option maxHeartbeats 1600000 in
theorem laid_any (w : World) (A : Option Addr) (c : Nat) (l : List UInt8) (x : Nat × List UInt8) (k : Nat) (hr : Rd w A l) (h0 : 0 < l.length) (hl : l.length ≤ 3000000) (hx : x.2.length = 512) (hk : k ≤ 512) (hf : k = 0 ∨ 512 * x.1 + 512 ≤ l.length) :
    Calls Try.prog 44 #[.slice A l.length c, wv x, .int .i64 (k : Int)] w fun e w' => ∃ v, e = .returned v ∧ w'.ownsRow w.heap.size 5 1 v l.length (bv (laidF l x k)) ∧ Below w.heap.size w w' := by
  have HR := Lib.hid hr
  have HX := Lib.hid hx
  have HF := Lib.hid hf
  clear hr hx hf
  go_enter Try.func44, Try.ntmps44
  have P4 := Lib.hid (Blk.new w 100 (wc x).toArray)
  have LW := Lib.hid ((Below.refl w.heap.size w).alloc (Nat.le_refl _) (.cells (wc x).toArray 100))
  have SW := Lib.hid (show (w.alloc (.cells (wc x).toArray 100)).heap.size = w.heap.size + 1 by simp)
  obtain ⟨W0, hW0⟩ : ∃ W0, W0 = w.alloc (.cells (wc x).toArray 100) := ⟨_, rfl⟩
  have HW0 := Lib.hid hW0
  rw [← hW0] at P4 LW SW
  have HRl := Lib.hid ((HR.out.below LW.out).below (below_lit0 W0))
  have s0 := SW.out
  clear hW0
  go_wp2_with (at_builtin; rw [← HW0.out]; refine wpList_append_bytes _ rfl (.tmp 9) (.tmp 10) _ rfl Try.underlying22 infoU8 (by rw [← s0]; rfl) (lit0 W0) rfl HRl.out rfl (by omega) (by simp) ?_; intro v1 w1 hown1 hg1 hat1; simp only [Nat.zero_add, List.nil_append] at hown1; have HB1 := Lib.hid (below_append (below_lit0 W0) (lit0 W0) hg1 (Nat.le_refl _) (by simp)); obtain ⟨g, cap, rfl, hcap⟩ := own_some hown1 h0; have HO1 := Lib.hid hown1; clear hown1 hg1 hat1)
  have hgb := (HO1.out.lt g rfl).1
  have P41 := Lib.hid (P4.out.below HB1.out P4.out.lt)
  have B1 := Lib.hid (LW.out.trans (HB1.out.mono LW.out.size))
  have HGB := Lib.hid (show g ≠ w.heap.size ∧ w.heap.size ≤ g by have := SW.out; omega)
  clear HRl HR HW0 hgb s0
  go_loopw [8] (fun i wr => ∃ j : Nat, j ≤ k ∧ i = .int .i64 j ∧ wr.ownsRow W0.heap.size 5 1 (.slice (some ⟨g, 0, none⟩) l.length cap) l.length (bv (laidF l x j)) ∧ w1.grownBy wr (some g)) (fun i _ => k - (intOf i).toNat)
  case atStart => exact ⟨0, Nat.zero_le _, rfl, by rw [laidF_zero]; exact HO1.out, World.grownBy.refl _ _⟩
  case round =>
    obtain ⟨j, hj, rfl, hown, hgr⟩ := hrel
    by_cases hlt : j < k
    · have HFF := Lib.hid (show 512 * x.1 + 512 ≤ l.length by have := HF.out; omega)
      obtain ⟨M, hM⟩ : ∃ M, M = 512 * x.1 := ⟨_, rfl⟩
      obtain ⟨Q, hQ⟩ : ∃ Q, Q = M + j := ⟨_, rfl⟩
      have hjx : j < x.2.length := by rw [HX.out]; omega
      have hQl : Q < l.length := by have := HFF.out; omega
      have hc := hown.cellAt Q (by omega)
      have hf := hown.frozenAt Q
      have hbl : (bv (laidF l x j)).length = l.length := by rw [bv_length, laidF_length l x j (by have := HFF.out; omega) HX.out (by omega)]
      rw [List.getElem?_eq_getElem (by rw [hbl]; exact hQl)] at hc
      generalize (bv (laidF l x j))[Q]'(by rw [hbl]; exact hQl) = u0 at hc
      have HS := Lib.hid (hown.stored Q (.int .u8 ((x.2[j]).toNat : Int)))
      have HG := Lib.hid hgr
      have HSET := Lib.hid (laidF_set l x j (by have := HFF.out; omega) hjx)
      have P4r := Lib.hid (show Blk wr w.heap.size 100 (wc x).toArray from (hgr.block w.heap.size P41.out.lt (fun e => by injection e with e; exact HGB.out.1 e.symm)).trans P41.out)
      have e0 : (wc x).toArray[0]? = some (.int .i64 (x.1 : Int)) := rfl
      have e1 : (wc x).toArray[1 + j]? = some (.int .u8 ((x.2[j]).toNat : Int)) := by
        rw [List.getElem?_toArray, Nat.add_comm 1 j, wc, List.getElem?_cons_succ, bv_get, List.getElem?_eq_getElem hjx]
        rfl
      have E0 := Lib.hid e0
      have E1 := Lib.hid e1
      have wrM : IntKind.i64.wrap (512 * (x.1 : Int)) = (M : Int) := by rw [show 512 * (x.1 : Int) = (M : Int) by omega]; exact IntWalk.i64_in _ (by have := HFF.out; omega)
      have wrQ : IntKind.i64.wrap ((M : Int) + (j : Int)) = (Q : Int) := by rw [show (M : Int) + (j : Int) = (Q : Int) by omega]; exact IntWalk.i64_in _ (by omega)
      have b1 : (j : Int) < 512 := by omega
      have b0 : (0 : Int) ≤ (j : Int) := by omega
      have b2 : (Q : Int) < (l.length : Int) := by omega
      have b3 : (0 : Int) ≤ (Q : Int) := by omega
      have QE := Lib.hid (show 512 * x.1 + j = Q by omega)
      generalize x.2[j] = y at HS HSET e1 E1
      clear hM hQ hown hgr hbl e0 e1 hjx
      go_wp2_with fail
      refine wp_region_U (S := fun w' => w'.cell? ⟨w.heap.size, 0, none⟩ = some (.int .i64 (x.1 : Int)) ∧ w'.cell? ⟨w.heap.size, 1 + j, none⟩ = some (.int .u8 (y.toNat : Int))) 11 (by kernel_rfl) ⟨(Blk.cell P4r.out 0).trans E0.out, (Blk.cell P4r.out (1 + j)).trans E1.out⟩ (fun hHeld => ?_)
      refine wpAnyU_take (i := 0) (v := ?v1) rfl (by kernel_rfl) (by kernel_rfl) (by kernel_rfl) (by kernel_rfl) (fun _ _ _ h => h) (Or.inl ⟨by rfl, ?hy1⟩) hHeld ?rest1
      case hy1 =>
        intro w' hSw
        try dsimp only at hSw
        go_simp
        first | done | with_reducible rfl
      try simp only [Act.put, List.getElem_toArray, List.getElem_cons_zero, List.setIfInBounds_toArray, List.set_cons_zero, List.set_cons_succ]
      refine wpAnyU_take (i := 1) (v := ?v2) rfl (by kernel_rfl) (by kernel_rfl) (by kernel_rfl) (by kernel_rfl) (fun _ _ _ h => h) (Or.inl ⟨by rfl, ?hy2⟩) hHeld ?rest2
      case hy2 =>
        intro w' hSw
        try dsimp only at hSw
        go_simp
        first | done | with_reducible rfl
      try simp only [Act.put, List.getElem_toArray, List.getElem_cons_succ, List.getElem_cons_zero, List.setIfInBounds_toArray, List.set_cons_zero, List.set_cons_succ]
      refine wpAnyU_take (i := 2) (v := ?v3) rfl (by kernel_rfl) (by kernel_rfl) (by kernel_rfl) (by kernel_rfl) (fun _ _ _ h => h) (Or.inl ⟨by rfl, ?hy3⟩) hHeld ?rest3
      case hy3 =>
        intro w' hSw
        try dsimp only at hSw
        go_simp
        first | done | with_reducible rfl
      try simp only [Act.put, List.getElem_toArray, List.getElem_cons_succ, List.getElem_cons_zero, List.setIfInBounds_toArray, List.set_cons_zero, List.set_cons_succ]
      refine wpAnyU_take (i := 3) (v := ?v4) rfl (by kernel_rfl) (by kernel_rfl) (by kernel_rfl) (by kernel_rfl) (fun _ _ _ h => h) (Or.inl ⟨by rfl, ?hy4⟩) hHeld ?rest4
      case hy4 =>
        intro w' hSw
        try dsimp only at hSw
        go_simp
        first | done | with_reducible rfl
      try simp only [Act.put, List.getElem_toArray, List.getElem_cons_succ, List.getElem_cons_zero, List.setIfInBounds_toArray, List.set_cons_zero, List.set_cons_succ]
      refine wpAnyU_take (i := 4) (v := ?v5) rfl (by kernel_rfl) (by kernel_rfl) (by kernel_rfl) (by kernel_rfl) (fun _ _ _ h => h) (Or.inl ⟨by rfl, ?hy5⟩) hHeld ?rest5
      case hy5 =>
        intro w' hSw
        try dsimp only at hSw
        go_simp
        first | done | with_reducible rfl
      try simp only [Act.put, List.getElem_toArray, List.getElem_cons_succ, List.getElem_cons_zero, List.setIfInBounds_toArray, List.set_cons_zero, List.set_cons_succ]
      refine wpAnyU_take (i := 5) (v := ?v6) rfl (by kernel_rfl) (by kernel_rfl) (by kernel_rfl) (by kernel_rfl) (fun _ _ _ h => h) (Or.inl ⟨by rfl, ?hy6⟩) hHeld ?rest6
      case hy6 =>
        intro w' hSw
        try dsimp only at hSw
        go_simp
        first | done | with_reducible rfl
      try simp only [Act.put, List.getElem_toArray, List.getElem_cons_succ, List.getElem_cons_zero, List.setIfInBounds_toArray, List.set_cons_zero, List.set_cons_succ]
      refine wpAnyU_take (i := 6) (v := ?v7) rfl (by kernel_rfl) (by kernel_rfl) (by kernel_rfl) (by kernel_rfl) (fun _ _ _ h => h) (Or.inl ⟨by rfl, ?hy7⟩) hHeld ?rest7
      case hy7 =>
        intro w' hSw
        try dsimp only at hSw
        go_simp
        first | done | with_reducible rfl
      try simp only [Act.put, List.getElem_toArray, List.getElem_cons_succ, List.getElem_cons_zero, List.setIfInBounds_toArray, List.set_cons_zero, List.set_cons_succ]
      refine wpAnyU_take (i := 7) (v := ?v8) rfl (by kernel_rfl) (by kernel_rfl) (by kernel_rfl) (by kernel_rfl) (fun _ _ _ h => h) (Or.inl ⟨by rfl, ?hy8⟩) hHeld ?rest8
      case hy8 =>
        intro w' hSw
        try dsimp only at hSw
        go_simp
        first | done | with_reducible rfl
      try simp only [Act.put, List.getElem_toArray, List.getElem_cons_succ, List.getElem_cons_zero, List.setIfInBounds_toArray, List.set_cons_zero, List.set_cons_succ]
      refine wpAnyU_take (i := 8) (v := ?v9) rfl (by kernel_rfl) (by kernel_rfl) (by kernel_rfl) (by kernel_rfl) (fun _ _ _ h => h) (Or.inl ⟨by rfl, ?hy9⟩) hHeld ?rest9
      case hy9 =>
        intro w' hSw
        try dsimp only at hSw
        go_simp
        first | done | with_reducible rfl
      try simp only [Act.put, List.getElem_toArray, List.getElem_cons_succ, List.getElem_cons_zero, List.setIfInBounds_toArray, List.set_cons_zero, List.set_cons_succ]
      refine wpAnyU_take (i := 9) (v := ?v10) rfl (by kernel_rfl) (by kernel_rfl) (by kernel_rfl) (by kernel_rfl) (fun _ _ _ h => h) (Or.inl ⟨by rfl, ?hy10⟩) hHeld ?rest10
      case hy10 =>
        intro w' hSw
        try dsimp only at hSw
        go_simp
        first | done | with_reducible rfl
      try simp only [Act.put, List.getElem_toArray, List.getElem_cons_succ, List.getElem_cons_zero, List.setIfInBounds_toArray, List.set_cons_zero, List.set_cons_succ]
      refine wpAnyU_take (i := 10) (v := ?v11) rfl (by kernel_rfl) (by kernel_rfl) (by kernel_rfl) (by kernel_rfl) (fun _ _ _ h => h) (Or.inl ⟨by rfl, ?hy11⟩) hHeld ?rest11
      case hy11 =>
        intro w' hSw
        try dsimp only at hSw
        go_simp
        first | done | with_reducible rfl
      try simp only [Act.put, List.getElem_toArray, List.getElem_cons_succ, List.getElem_cons_zero, List.setIfInBounds_toArray, List.set_cons_zero, List.set_cons_succ]
      refine wpAnyU_one (i := 11) (by kernel_rfl) (by rfl) (fun K hK => ?_)
      go_simp
      refine hK.out _ _ (.inl rfl) (fun hHeld => ?_)
      clear hK K
      try simp only [Act.put, List.getElem_toArray, List.getElem_cons_succ, List.getElem_cons_zero, List.setIfInBounds_toArray, List.set_cons_zero, List.set_cons_succ]
      refine wpAnyU_done (by kernel_rfl) ?_ _
      refine OnlyN.normal ?_
      go_wp2
      go_roundw
      case rel =>
        have h1 := HS.out.1
        rw [← QE.out, HSET.out] at h1
        rw [← QE.out]
        exact ⟨j + 1, by omega, by go_num, h1, grow_trans HG.out (by rw [QE.out]; exact ⟨HS.out.2.os, HS.out.2.tape, HS.out.2.output, HS.out.2.size, HS.out.2.block⟩)⟩
      case measure => simp [intOf]; omega
    · have hjk : j = k := by omega
      subst hjk
      have HO := Lib.hid hown
      have HBr := Lib.hid (below_grow B1.out hgr HGB.out.2 B1.out.size)
      clear hown hgr
      go_wp2
      go_ret
      exact ⟨_, rfl, own_base HO.out (by have := SW.out; omega), HBr.out⟩
end Go.Proofs.Ytcfkoglehjkkdaa

/- A region that draws its order, quiet in a class of worlds of the prover's own: steps by hand. -/
import Derived.Test.YtcfkoglehjkkdaaP01
import Derived.Deep.Quiet
import Derived.OrdersHeld
import Derived.Shelf.RegionOpen
import Derived.Test.YtcfkoglehjkkdaaP12
namespace Go.Proofs.Ytcfkoglehjkkdaa
open Go.RowKit
section
variable {P : Program} {ops : Array Oper} {C : World → Prop} {Q : Act → Prop} {o : Oper} {rest : List Oper} {a : Act}
theorem q_take {v : Value} (hw : Region.wanted o (yielded ops a.tmps) = true) (hy : ∀ w, C w → (execOp a.eval o).run P w = .ok (.value v) w) (h : wpQuiet P ops C Q rest (a.put o.dst v)) : wpQuiet P ops C Q (o :: rest) a :=
  wpQuiet_step fun K hK => by
    rw [if_pos hw]
    exact ⟨v, fun w hc => by unfold Oper.quietAt; rw [hy w hc]; exact ⟨rfl, rfl⟩, hK _ h⟩
set_option maxRecDepth 8000 in
theorem q_yield {v : Value} (hw : Region.wanted o (yielded ops a.tmps) = true) (hy : YieldsIf P ops C o v a) (h : wpQuiet P ops C Q rest (a.put o.dst v)) : wpQuiet P ops C Q (o :: rest) a := by
  rcases hy with ⟨_, hy⟩ | ⟨hn, _⟩
  · exact q_take hw hy h
  · rw [hw] at hn; cases hn
theorem q_skip (hw : Region.wanted o (yielded ops a.tmps) = false) (h : wpQuiet P ops C Q rest (a.put o.dst undef)) : wpQuiet P ops C Q (o :: rest) a :=
  wpQuiet_step fun K hK => by
    rw [if_neg (by rw [hw]; exact Bool.false_ne_true)]
    exact hK _ h
theorem q_call {v : Value} {f : FuncId} {args : Array Value} (hw : Region.wanted o (yielded ops a.tmps) = true) (he : ∀ w, (execOp a.eval o).run P w = .ok (.enter f args) w)
    (hc : ∀ w, C w → Calls P f args w fun e w' => e = .returned v ∧ C w') (h : wpQuiet P ops C Q rest (a.put o.dst v)) : wpQuiet P ops C Q (o :: rest) a :=
  wpQuiet_step fun K hK => by
    rw [if_pos hw]
    exact ⟨v, fun w hC => by unfold Oper.quietAt; rw [he w]; exact ⟨rfl, hc w hC⟩, hK _ h⟩
theorem wp_quiet {id : Nat} {Q : Exit → Act → World → Prop} {a : Act} {w : World} {l : List Oper} (C : World → Prop) (hm : P.follows .mixedOrders = true) (hB : Region.lexB .any l.toArray = true) (hC : C w.drew)
    (h : wpQuiet P l.toArray C (fun a' => ∀ w', C w' → Q .normal a' w') l a) : (Code.region id l.toArray true).wp P Q a w :=
  wp_region_quiet (C := C) hm hB hC (by simpa using h)
theorem wpIn_quiet {n id : Nat} {Q : Exit → Act → World → Prop} {a : Act} {w : World} {l : List Oper} (C : World → Prop) (hm : P.follows .mixedOrders = true) (hB : Region.lexB .any l.toArray = true) (hC : C w.drew)
    (h : wpQuiet P l.toArray C (fun a' => ∀ w', C w' → Q .normal a' w') l a) : (Code.region id l.toArray true).wpIn Fence.wide n P Q a w :=
  wpIn_wide.2 (wp_quiet C hm hB hC h)
end
end Go.Proofs.Ytcfkoglehjkkdaa
namespace Go.Proofs.Ytcfkoglehjkkdaa
open Go.RowKit
attribute [local go_sem] run_store_bv run_store_wc
/-- the first k bytes are c -/
def fillK (c : UInt8) (k : Nat) : List UInt8 := List.replicate k c ++ List.replicate (512 - k) 0
set_option maxRecDepth 8000 in
theorem fillK_length (c : UInt8) (k : Nat) (h : k ≤ 512) : (fillK c k).length = 512 := by simp [fillK]; omega
set_option maxRecDepth 8000 in
theorem fillK_zero (c : UInt8) : fillK c 0 = zs := by
  unfold fillK zs
  rw [List.replicate_zero, List.nil_append]
set_option maxRecDepth 8000 in
theorem fillK_set (c : UInt8) (k : Nat) (h : k < 512) : (bv (fillK c k)).toArray.setIfInBounds k (.int .u8 (c.toNat : Int)) = (bv (fillK c (k + 1))).toArray := by
  have e : (fillK c k).set k c = fillK c (k + 1) := by
    unfold fillK
    rw [List.set_append_right _ _ (by simp), List.length_replicate, Nat.sub_self, show 512 - k = (512 - (k + 1)) + 1 by omega, List.replicate_succ, List.set_cons_zero, List.replicate_succ', List.append_assoc]
    rfl
  rw [List.setIfInBounds_toArray, ← e]
  congr 1
  simp [bv, List.map_set]
/-- a sector of one byte again and again -/
def fullL (c : UInt8) : List UInt8 := List.replicate 512 c
theorem fullL_length (c : UInt8) : (fullL c).length = 512 := List.length_replicate ..
set_option maxRecDepth 8000 in
theorem fillK_full (c : UInt8) : fillK c 512 = fullL c := by
  unfold fillK fullL
  rw [Nat.sub_self, List.replicate_zero, List.append_nil]
end Go.Proofs.Ytcfkoglehjkkdaa
namespace Go.Proofs.Ytcfkoglehjkkdaa
open Go.RowKit
attribute [local go_sem] Oper.semAt_some
attribute [local go_sem] run_store_bv run_store_wc run_store_bv_drew run_store_wc_drew
def x1 : Nat × List UInt8 := (1, fullL 120)
def d1 : Dk := (newDk 4).stepped.queued x1
def cr0 : Cr := { keep := [], torn := 0, bytes := 2 }
theorem reads_d1 : d1.reads 1 = fullL 120 := rfl
set_option maxRecDepth 8000 in
theorem lasts_c (n : Nat) : (d1.stepped.crashed cr0).reads n = if n = 1 then layL zs (fullL 120) 2 else zs := by
  show upL (fun _ => zs) 1 (layL zs (fullL 120) 2) n = _
  rfl
theorem yields_eql47 {ops : Array Oper} {S : World → Prop} {o : Oper} {a : Act} (hw : Region.wanted o (yielded ops a.tmps) = true) (x y : Operand) (ho : o.op = .binOp .eql 56 x y 56) (l l' : List UInt8) (hx : a.eval x = sec l) (hy : a.eval y = sec l') (h : l.length = 512) (h' : l'.length = 512) : YieldsIf Try.prog ops S o (.bool (l == l')) a :=
  .inl ⟨hw, fun w _ => by
    unfold execOp
    simp only [ho, hx, hy, Sem.run_bind, run_eqGuard_agg (P := Try.prog) w .eql 56 x y (bv l).toArray (bv l').toArray (by kernel_rfl), run_eql47 w l l' h h', Result.andThen_ok, Sem.run_pure]⟩
end Go.Proofs.Ytcfkoglehjkkdaa
namespace Go.Proofs.Ytcfkoglehjkkdaa
open Go.RowKit
attribute [local go_sem] Oper.semAt_some
attribute [local go_sem] run_store_bv run_store_wc run_store_bv_drew run_store_wc_drew
/-- a sector's bytes in a row of them -/
def chunk (l : List UInt8) (n : Nat) : List UInt8 := (l.drop (n * 512)).take 512
def ofL (l : List UInt8) (k n : Nat) : List UInt8 := if n < k then chunk l n else zs
def ofD (l : List UInt8) (s k : Nat) : Dk := { newDk s with lasts := ofL l k }
set_option maxRecDepth 8000 in
theorem chunk_length (l : List UInt8) (s n : Nat) (hl : l.length = s * 512) (hn : n < s) : (chunk l n).length = 512 := by
  have : (n + 1) * 512 ≤ s * 512 := Nat.mul_le_mul_right _ hn
  simp [chunk]
  omega
set_option maxRecDepth 8000 in
theorem ofL_length (l : List UInt8) (s k : Nat) (hl : l.length = s * 512) (hk : k ≤ s) (n : Nat) : (ofL l k n).length = 512 := by
  unfold ofL
  split
  · exact chunk_length l s n hl (by omega)
  · exact zs_length
set_option maxRecDepth 8000 in
theorem ofL_step (l : List UInt8) (k : Nat) : upL (ofL l k) k (chunk l k) = ofL l (k + 1) := by
  funext n
  unfold upL ofL
  by_cases h : n = k
  · subst h; simp
  · rw [if_neg h]
    by_cases h2 : n < k
    · rw [if_pos h2, if_pos (by omega)]
    · rw [if_neg h2, if_neg (by omega)]
set_option maxRecDepth 8000 in
theorem splice_zs (c : List UInt8) (h : c.length = 512) : splice zs 0 c = c := by
  have e := splice_lay zs c 512 (by omega)
  rw [List.take_of_length_le (by omega)] at e
  rw [e, layL, List.take_of_length_le (by omega), List.drop_eq_nil_of_le (by rw [zs_length]; exact Nat.le_refl _), List.append_nil]
theorem rd_chunk {w : World} {g o : Nat} {l : List UInt8} (h : Rd w (some ⟨g, o, none⟩) l) (k : Nat) : Rd w (some ⟨g, o + k * 512, none⟩) (chunk l k) := (h.drop (k * 512)).take 512
set_option maxRecDepth 100000 in
set_option maxHeartbeats 800000 in
theorem of_odd (w : World) (A : Option Addr) (n cap : Nat) (hm : n % 512 ≠ 0) (hn : n ≤ 4000000) :
    Calls Try.prog 27 #[.slice A n cap] w fun e w' => e = .returned (.tuple #[.pointer none, .int .i64 2]) ∧ w = w' := by
  have h1 : ((n : Int).tmod 512 == 0) = false := beq_eq_false_iff_ne.2 (by rw [Int.tmod_eq_emod_of_nonneg (by omega)]; omega)
  go_enter Try.func27, Try.ntmps27
  go_wp2
  exact bodyPost_ret (results_tmp2 rfl _ _ _) rfl ⟨rfl, rfl⟩
set_option maxRecDepth 100000 in
set_option maxHeartbeats 800000 in
theorem of_none (w : World) (A : Option Addr) (cap : Nat) :
    Calls Try.prog 27 #[.slice A 0 cap] w fun e w' => e = .returned (.tuple #[.pointer none, .int .i64 2]) ∧ w = w' := by
  go_enter Try.func27, Try.ntmps27
  go_wp2_with (go_at_call 22; refine (new_no _ _ (by decide)).mono ?_; rintro e w' ⟨rfl, rfl⟩)
  exact bodyPost_ret (results_tmp2 rfl _ _ _) rfl ⟨rfl, rfl⟩
set_option maxRecDepth 100000 in
set_option maxHeartbeats 4000000 in
theorem of_ok (w : World) (g o cap s : Nat) (l : List UInt8) (hl : l.length = s * 512) (h1 : 1 ≤ s) (h2 : s ≤ 4096) (hcap : l.length ≤ cap) (hr : Rd w (some ⟨g, o, none⟩) l) :
    Calls Try.prog 27 #[.slice (some ⟨g, o, none⟩) l.length cap] w fun e w' =>
      ∃ p pl, e = .returned (.tuple #[.pointer (some ⟨p, 0, none⟩), .int .i64 0]) ∧ DiskAt w' w.heap.size p pl (ofD l s s) ∧ Below w.heap.size w w' := by
  have hz := z47
  have m1 : (((l.length : Nat) : Int) % 512 != 0) = false := bne_eq_false_iff_eq.2 (by omega)
  have m2 : ((l.length : Nat) : Int).tdiv 512 = (s : Int) := by rw [Int.tdiv_eq_ediv_of_nonneg (by omega)]; omega
  have N0 := Lib.hid (new_at w s h1 h2)
  have L0 := Lib.hid (((Below.refl w.heap.size w).alloc (Nat.le_refl _) (.map #[] 0)).alloc (by simp) (.cells (dcells (newPl w.heap.size) (newDk s)) 90))
  have HR := Lib.hid hr
  have HL := Lib.hid hl
  have HCAP := Lib.hid (show s * 512 ≤ cap by omega)
  clear hr hcap hl
  go_enter Try.func27, Try.ntmps27
  go_wp2_with (go_at_call 22; refine (new_yes _ s h1 h2).mono ?_; rintro e w' ⟨rfl, rfl⟩; generalize (w.alloc (.map #[] 0)).alloc (.cells (dcells (newPl w.heap.size) (newDk s)) 90) = W0 at N0 L0 ⊢; generalize newPl w.heap.size = pl at N0; have c0 := N0.out.c0; have hsz : ((newDk s).size : Int) = (s : Int) := rfl; rw [hsz] at c0; clear hsz m1 m2)
  clear c0
  go_loopw [26] (fun i wr => ∃ k : Nat, k ≤ s ∧ i = .int .i64 k ∧ DiskAt wr w.heap.size (w.heap.size + 1) pl (ofD l s k) ∧ Below w.heap.size w wr) (fun i _ => s - (intOf i).toNat)
  case atStart => exact ⟨0, Nat.zero_le _, rfl, N0.out, L0.out⟩
  case round =>
    obtain ⟨k, hk, rfl, hd, hb⟩ := hrel
    by_cases hlt : k < s
    · have HD := Lib.hid hd
      have HB := Lib.hid hb
      have K1 := Lib.hid (show (k + 1) * 512 ≤ cap from Nat.le_trans (Nat.mul_le_mul_right _ hlt) HCAP.out)
      have CL := Lib.hid (chunk_length l s k HL.out hlt)
      have k4 : k ≤ 4096 := by omega
      have RW := Lib.hid (rd_chunk (HR.out.below (hb.mono (Nat.le_refl _))) k)
      clear hd hb
      go_wp2
      have Z1 := Lib.hid (Blk.new wr 56 (bv zs).toArray)
      have RW1 := Lib.hid (RW.out.alloc (.cells (bv zs).toArray 56))
      have HD1 := Lib.hid (HD.out.alloc (.cells (bv zs).toArray 56))
      have HB1 := Lib.hid (HB.out.alloc HB.out.size (.cells (bv zs).toArray 56))
      have NB := Lib.hid (HB.out.size)
      have HP := Lib.hid (show ∀ q, pl.has (w.heap.size + 1) q → q < wr.heap.size from fun q hq => (HD.out.lt q hq).1)
      obtain ⟨b7, hb7⟩ : ∃ b, b = wr.heap.size := ⟨_, rfl⟩
      rw [← hb7] at Z1 HP NB
      simp only [← hb7]
      generalize wr.alloc (.cells (bv zs).toArray 56) = W1 at Z1 RW1 HD1 HB1 ⊢
      clear HD HB RW hb7
      refine wp_region_only (S := fun _ => True) (by kernel_rfl) trivial (fun hHeld => ?_)
      refine wpAnyH_take (i := 0) (v := ?v1) rfl (by kernel_rfl) (by kernel_rfl) (by kernel_rfl) (fun _ _ _ h => h) (Or.inl ⟨by rfl, ?hy1⟩) hHeld ?rest1
      case hy1 =>
        intro w' hSw
        try dsimp only at hSw
        go_simp
        first | done | with_reducible rfl
      try simp only [Act.put, List.getElem_toArray, List.getElem_cons_zero, List.setIfInBounds_toArray, List.set_cons_zero, List.set_cons_succ]
      refine wpAnyH_take (i := 1) (v := ?v2) rfl (by kernel_rfl) (by kernel_rfl) (by kernel_rfl) (fun _ _ _ h => h) (Or.inl ⟨by rfl, ?hy2⟩) hHeld ?rest2
      case hy2 =>
        intro w' hSw
        try dsimp only at hSw
        go_simp
        first | done | with_reducible rfl
      try simp only [Act.put, List.getElem_toArray, List.getElem_cons_succ, List.getElem_cons_zero, List.setIfInBounds_toArray, List.set_cons_zero, List.set_cons_succ]
      refine wpAnyH_take (i := 2) (v := ?v3) rfl (by kernel_rfl) (by kernel_rfl) (by kernel_rfl) (fun _ _ _ h => h) (Or.inl ⟨by rfl, ?hy3⟩) hHeld ?rest3
      case hy3 =>
        intro w' hSw
        try dsimp only at hSw
        go_simp
        first | done | with_reducible rfl
      try simp only [Act.put, List.getElem_toArray, List.getElem_cons_succ, List.getElem_cons_zero, List.setIfInBounds_toArray, List.set_cons_zero, List.set_cons_succ]
      refine wpAnyH_ready (rs := [3]) (by kernel_rfl) (by simp) ?_
      refine AllReadyH.cons (by rfl) (fun K hK => ?_) AllReadyH.nil
      go_simp
      refine (part_at g o _ cap k _ K1.out k4).mono ?_
      rintro e w' ⟨rfl, rfl⟩
      go_wp2_with fail
      refine hK.out _ _ trivial (fun hHeld => ?_)
      clear hK K
      try simp only [Act.put, List.getElem_toArray, List.getElem_cons_succ, List.getElem_cons_zero, List.setIfInBounds_toArray, List.set_cons_zero, List.set_cons_succ]
      refine wpAnyH_ready (rs := [4]) (by kernel_rfl) (by simp) ?_
      refine AllReadyH.cons (by rfl) (fun K hK => ?_) AllReadyH.nil
      refine step_copy rfl (.tmp 29) (.tmp 32) (by rfl) Try.underlying22 size5 b7 0 512 512 (some ⟨g, o + k * 512, none⟩) 512 512 (by simp [Act.eval]) (by simp [Act.eval]) zs (chunk l k) (drew_blk Z1.out) (by rw [CL.out]; rfl) RW1.out.drew (by rw [CL.out, zs_length]; exact Nat.le_refl _) ?_
      intro w6 hb6 hg6 hs6
      rw [splice_zs _ CL.out] at hb6
      have Z6 := Lib.hid hb6
      have HD6 := Lib.hid (HD1.out.drew.keep (fun q hq => hg6.block q (HD1.out.lt q hq).1 (fun e => by injection e with e; have := HP.out q hq; omega)))
      have HB6 := Lib.hid (HB1.out.drew.grown hg6 HB1.out.size (fun q e => by injection e with e; have := NB.out; omega))
      clear hb6 hg6 hs6 Z1 RW1 HD1 HB1
      refine hK.out _ _ trivial (fun hHeld => ?_)
      clear hK K
      try simp only [Act.put, List.getElem_toArray, List.getElem_cons_succ, List.getElem_cons_zero, List.setIfInBounds_toArray, List.set_cons_zero, List.set_cons_succ]
      refine wpAnyH_done (by kernel_rfl) ?_ _
      refine OnlyN.normal ?_
      clear hHeld
      obtain ⟨w8, hupd, u1, u2, u3⟩ := HD6.out.drew.map.update k (chunk l k)
      have UE := Lib.hid (ofL_step l k)
      have U1 : Hid (SecMap w8 pl.m (upL (ofL l k) k (chunk l k))) := u1
      have UF := Lib.hid (show Fr (· = pl.m) w6 w8 from ((Fr.refl _ w6).drew.grown u2 (fun q e _ => by injection e with e; exact e.symm)))
      clear u1 u2 u3
      go_wp2_with fail
      refine wp_region_U (S := fun w' => w'.cell? ⟨w.heap.size + 1, 1, none⟩ = some (.map (some pl.m)) ∧ w'.rangeAt b7 0 (bv (chunk l k))) 6 (by kernel_rfl) ⟨HD6.out.drew.c1, (drew_blk Z6.out).rangeAt⟩ (fun hHeld => ?_)
      refine wpAnyU_take (i := 0) (v := ?v4) rfl (by kernel_rfl) (by kernel_rfl) (by kernel_rfl) (by kernel_rfl) (fun _ _ _ h => h) (Or.inl ⟨by rfl, ?hy4⟩) hHeld ?rest4
      case hy4 =>
        intro w' hSw
        try dsimp only at hSw
        go_simp
        first | done | with_reducible rfl
      try simp only [Act.put, List.getElem_toArray, List.getElem_cons_zero, List.setIfInBounds_toArray, List.set_cons_zero, List.set_cons_succ]
      refine wpAnyU_take (i := 1) (v := ?v5) rfl (by kernel_rfl) (by kernel_rfl) (by kernel_rfl) (by kernel_rfl) (fun _ _ _ h => h) (Or.inl ⟨by rfl, ?hy5⟩) hHeld ?rest5
      case hy5 =>
        intro w' hSw
        try dsimp only at hSw
        go_simp
        first | done | with_reducible rfl
      try simp only [Act.put, List.getElem_toArray, List.getElem_cons_succ, List.getElem_cons_zero, List.setIfInBounds_toArray, List.set_cons_zero, List.set_cons_succ]
      refine wpAnyU_take (i := 2) (v := ?v6) rfl (by kernel_rfl) (by kernel_rfl) (by kernel_rfl) (by kernel_rfl) (fun _ _ _ h => h) (Or.inl ⟨by rfl, ?hy6⟩) hHeld ?rest6
      case hy6 =>
        intro w' hSw
        try dsimp only at hSw
        go_simp
        first | done | with_reducible rfl
      try simp only [Act.put, List.getElem_toArray, List.getElem_cons_succ, List.getElem_cons_zero, List.setIfInBounds_toArray, List.set_cons_zero, List.set_cons_succ]
      refine wpAnyU_take (i := 3) (v := ?v7) rfl (by kernel_rfl) (by kernel_rfl) (by kernel_rfl) (by kernel_rfl) (fun _ _ _ h => h) (Or.inl ⟨by rfl, ?hy7⟩) hHeld ?rest7
      case hy7 =>
        intro w' hSw
        try dsimp only at hSw
        go_simp
        first | done | with_reducible rfl
      try simp only [Act.put, List.getElem_toArray, List.getElem_cons_succ, List.getElem_cons_zero, List.setIfInBounds_toArray, List.set_cons_zero, List.set_cons_succ]
      refine wpAnyU_take (i := 4) (v := ?v8) rfl (by kernel_rfl) (by kernel_rfl) (by kernel_rfl) (by kernel_rfl) (fun _ _ _ h => h) (Or.inl ⟨by rfl, ?hy8⟩) hHeld ?rest8
      case hy8 =>
        intro w' hSw
        try dsimp only at hSw
        go_simp
        first | done | with_reducible rfl
      try simp only [Act.put, List.getElem_toArray, List.getElem_cons_succ, List.getElem_cons_zero, List.setIfInBounds_toArray, List.set_cons_zero, List.set_cons_succ]
      refine wpAnyU_take (i := 5) rfl (by kernel_rfl) (by kernel_rfl) (by kernel_rfl) (by kernel_rfl) (fun _ _ _ h => h) (yieldsIf_load_mid (by rfl) 56 _ (by rfl) b7 0 (by rfl) (bv (chunk l k)) _ (fun w' hSw => hSw.2) Try.underlying56 rfl (by rw [bv_length, CL.out]; exact size47)) hHeld ?_
      try simp only [Act.put, List.getElem_toArray, List.getElem_cons_succ, List.getElem_cons_zero, List.setIfInBounds_toArray, List.set_cons_zero, List.set_cons_succ]
      refine wpAnyU_one (i := 6) (by kernel_rfl) (by rfl) (fun K hK => ?_)
      go_simp
      refine hK.out _ _ (.inl rfl) (fun hHeld => ?_)
      clear hK K
      try simp only [Act.put, List.getElem_toArray, List.getElem_cons_succ, List.getElem_cons_zero, List.setIfInBounds_toArray, List.set_cons_zero, List.set_cons_succ]
      refine wpAnyU_done (by kernel_rfl) ?_ _
      refine OnlyN.normal ?_
      have HD8 := Lib.hid (HD6.out.turned UF.out U1.out (by rw [UE.out]; exact ofL_length l s (k + 1) HL.out hlt))
      have HB8 := Lib.hid (HB6.out.trans (UF.out.to_below (B := w.heap.size) (fun q e => by have := HD6.out.bm; omega) HB6.out.size))
      have HD9 : Hid (DiskAt w8 w.heap.size (w.heap.size + 1) pl (ofD l s (k + 1))) := by
        have h9 := HD8.out
        rw [UE.out] at h9
        exact h9
      clear HD8 U1 UF Z6 HD6 HB6 UE
      go_wp2
      go_roundw
      case rel => exact ⟨k + 1, by omega, by go_num, HD9.out, HB8.out⟩
      case measure => simp [intOf]; omega
    · have hks : k = s := by omega
      subst hks
      have HD := Lib.hid hd
      have HB := Lib.hid hb
      clear hd hb
      go_wp2
      exact bodyPost_ret (results_tmp2 rfl _ _ _) rfl ⟨_, _, rfl, HD.out, HB.out⟩
end Go.Proofs.Ytcfkoglehjkkdaa

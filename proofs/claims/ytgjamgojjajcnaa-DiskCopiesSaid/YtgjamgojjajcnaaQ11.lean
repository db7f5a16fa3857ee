/- disk: Of. -/
import Derived.Test.YtgjamgojjajcnaaQ10
import Derived.Test.YtgjamgojjajcnaaQ01
import Derived.Laws.BytesArg
import Derived.Deep.RegionWith
namespace Go.Proofs.Ytgjamgojjajcnaa
open Go.RowKit
attribute [local go_sem] Oper.semAt_some
attribute [local go_sem] run_store_bv run_store_wc run_store_bv_drew run_store_wc_drew
/-- a sector's bytes in a row of them -/
def chunk (l : List UInt8) (n : Nat) : List UInt8 := (l.drop (n * 512)).take 512
def ofL (l : List UInt8) (k n : Nat) : List UInt8 := if n < k then chunk l n else zs
def ofD (l : List UInt8) (s k : Nat) : Dk := { newDk s with lasts := ofL l k }
set_option maxRecDepth 8000 in
theorem chunk_length (l : List UInt8) (s n : Nat) (hl : l.length = s * 512) (hn : n < s) : (chunk l n).length = 512 := by
  have : (n + 1) * 512 ≤ s * 512 := Nat.mul_le_mul_right _ hn
  simp [chunk]
  omega
set_option maxRecDepth 8000 in
theorem ofL_length (l : List UInt8) (s k : Nat) (hl : l.length = s * 512) (hk : k ≤ s) (n : Nat) : (ofL l k n).length = 512 := by
  unfold ofL
  split
  · exact chunk_length l s n hl (by omega)
  · exact zs_length
set_option maxRecDepth 8000 in
theorem ofL_step (l : List UInt8) (k : Nat) : upL (ofL l k) k (chunk l k) = ofL l (k + 1) := by
  funext n
  unfold upL ofL
  by_cases h : n = k
  · subst h; simp
  · rw [if_neg h]
    by_cases h2 : n < k
    · rw [if_pos h2, if_pos (by omega)]
    · rw [if_neg h2, if_neg (by omega)]
set_option maxRecDepth 8000 in
theorem splice_zs (c : List UInt8) (h : c.length = 512) : splice zs 0 c = c := by
  have e := splice_lay zs c 512 (by omega)
  rw [List.take_of_length_le (by omega)] at e
  rw [e, layL, List.take_of_length_le (by omega), List.drop_eq_nil_of_le (by rw [zs_length]; exact Nat.le_refl _), List.append_nil]
theorem rd_chunk {w : World} {g o : Nat} {l : List UInt8} (h : Rd w (some ⟨g, o, none⟩) l) (k : Nat) : Rd w (some ⟨g, o + k * 512, none⟩) (chunk l k) := (h.drop (k * 512)).take 512
set_option maxRecDepth 100000 in
set_option maxHeartbeats 800000 in
theorem of_odd (w : World) (A : Option Addr) (n cap : Nat) (hm : n % 512 ≠ 0) (hn : n ≤ 4000000) :
    Calls Try.prog 31 #[.slice A n cap] w fun e w' => e = .returned (.tuple #[.pointer none, .int .i64 2]) ∧ w = w' := by
  have h1 : ((n : Int).tmod 512 == 0) = false := beq_eq_false_iff_ne.2 (by rw [Int.tmod_eq_emod_of_nonneg (by omega)]; omega)
  go_enter Try.func31, Try.ntmps31
  go_wp2
  exact bodyPost_ret (results_tmp2 rfl _ _ _) rfl ⟨rfl, rfl⟩
set_option maxRecDepth 100000 in
set_option maxHeartbeats 800000 in
theorem of_none (w : World) (A : Option Addr) (cap : Nat) :
    Calls Try.prog 31 #[.slice A 0 cap] w fun e w' => e = .returned (.tuple #[.pointer none, .int .i64 2]) ∧ w = w' := by
  go_enter Try.func31, Try.ntmps31
  go_wp2_with (go_at_call 30; refine (new_no _ _ (by decide)).mono ?_; rintro e w' ⟨rfl, rfl⟩)
  exact bodyPost_ret (results_tmp2 rfl _ _ _) rfl ⟨rfl, rfl⟩
set_option maxRecDepth 100000 in
set_option maxHeartbeats 4000000 in
theorem of_ok (w : World) (g o cap s : Nat) (l : List UInt8) (hl : l.length = s * 512) (h1 : 1 ≤ s) (h2 : s ≤ 4096) (hcap : l.length ≤ cap) (hr : Rd w (some ⟨g, o, none⟩) l) :
    Calls Try.prog 31 #[.slice (some ⟨g, o, none⟩) l.length cap] w fun e w' =>
      ∃ p pl, e = .returned (.tuple #[.pointer (some ⟨p, 0, none⟩), .int .i64 0]) ∧ DiskAt w' w.heap.size p pl (ofD l s s) ∧ Below w.heap.size w w' := by
  have hz := z47
  have m1 : (((l.length : Nat) : Int) % 512 != 0) = false := bne_eq_false_iff_eq.2 (by omega)
  have m2 : ((l.length : Nat) : Int).tdiv 512 = (s : Int) := by rw [Int.tdiv_eq_ediv_of_nonneg (by omega)]; omega
  have N0 := Lib.hid (new_at w s h1 h2)
  have L0 := Lib.hid (((Below.refl w.heap.size w).alloc (Nat.le_refl _) (.map #[] 0)).alloc (by simp) (.cells (dcells (newPl w.heap.size) (newDk s)) 85))
  have HR := Lib.hid hr
  have HL := Lib.hid hl
  have HCAP := Lib.hid (show s * 512 ≤ cap by omega)
  clear hr hcap hl
  go_enter Try.func31, Try.ntmps31
  go_wp2_with (go_at_call 30; refine (new_yes _ s h1 h2).mono ?_; rintro e w' ⟨rfl, rfl⟩; generalize (w.alloc (.map #[] 0)).alloc (.cells (dcells (newPl w.heap.size) (newDk s)) 85) = W0 at N0 L0 ⊢; generalize newPl w.heap.size = pl at N0; have c0 := N0.out.c0; have hsz : ((newDk s).size : Int) = (s : Int) := rfl; rw [hsz] at c0; clear hsz m1 m2)
  clear c0
  go_loopw [26] (fun i wr => ∃ k : Nat, k ≤ s ∧ i = .int .i64 k ∧ DiskAt wr w.heap.size (w.heap.size + 1) pl (ofD l s k) ∧ Below w.heap.size w wr) (fun i _ => s - (intOf i).toNat)
  case atStart => exact ⟨0, Nat.zero_le _, rfl, N0.out, L0.out⟩
  case round =>
    obtain ⟨k, hk, rfl, hd, hb⟩ := hrel
    by_cases hlt : k < s
    · have HD := Lib.hid hd
      have HB := Lib.hid hb
      have K1 := Lib.hid (show (k + 1) * 512 ≤ cap from Nat.le_trans (Nat.mul_le_mul_right _ hlt) HCAP.out)
      have CL := Lib.hid (chunk_length l s k HL.out hlt)
      have k4 : k ≤ 4096 := by omega
      have RW := Lib.hid (rd_chunk (HR.out.below (hb.mono (Nat.le_refl _))) k)
      clear hd hb
      go_wp2
      have Z1 := Lib.hid (Blk.new wr 38 (bv zs).toArray)
      have RW1 := Lib.hid (RW.out.alloc (.cells (bv zs).toArray 38))
      have HD1 := Lib.hid (HD.out.alloc (.cells (bv zs).toArray 38))
      have HB1 := Lib.hid (HB.out.alloc HB.out.size (.cells (bv zs).toArray 38))
      have NB := Lib.hid (HB.out.size)
      have HP := Lib.hid (show ∀ q, pl.has (w.heap.size + 1) q → q < wr.heap.size from fun q hq => (HD.out.lt q hq).1)
      obtain ⟨b7, hb7⟩ : ∃ b, b = wr.heap.size := ⟨_, rfl⟩
      rw [← hb7] at Z1 HP NB
      simp only [← hb7]
      generalize wr.alloc (.cells (bv zs).toArray 38) = W1 at Z1 RW1 HD1 HB1 ⊢
      clear HD HB RW hb7
      refine wp_region_only (S := fun _ => True) (by kernel_rfl) trivial (fun hHeld => ?_)
      refine wpAnyH_take (i := 0) (v := ?v1) rfl (by kernel_rfl) (by kernel_rfl) (by kernel_rfl) (fun _ _ _ h => h) (Or.inl ⟨by rfl, ?hy1⟩) hHeld ?rest1
      case hy1 =>
        intro w' hSw
        try dsimp only at hSw
        go_simp
        first | done | with_reducible rfl
      try simp only [Act.put, List.getElem_toArray, List.getElem_cons_zero, List.setIfInBounds_toArray, List.set_cons_zero, List.set_cons_succ]
      refine wpAnyH_take (i := 1) (v := ?v2) rfl (by kernel_rfl) (by kernel_rfl) (by kernel_rfl) (fun _ _ _ h => h) (Or.inl ⟨by rfl, ?hy2⟩) hHeld ?rest2
      case hy2 =>
        intro w' hSw
        try dsimp only at hSw
        go_simp
        first | done | with_reducible rfl
      try simp only [Act.put, List.getElem_toArray, List.getElem_cons_succ, List.getElem_cons_zero, List.setIfInBounds_toArray, List.set_cons_zero, List.set_cons_succ]
      refine wpAnyH_take (i := 2) (v := ?v3) rfl (by kernel_rfl) (by kernel_rfl) (by kernel_rfl) (fun _ _ _ h => h) (Or.inl ⟨by rfl, ?hy3⟩) hHeld ?rest3
      case hy3 =>
        intro w' hSw
        try dsimp only at hSw
        go_simp
        first | done | with_reducible rfl
      try simp only [Act.put, List.getElem_toArray, List.getElem_cons_succ, List.getElem_cons_zero, List.setIfInBounds_toArray, List.set_cons_zero, List.set_cons_succ]
      refine wpAnyH_ready (rs := [3]) (by kernel_rfl) (by simp) ?_
      refine AllReadyH.cons (by rfl) (fun K hK => ?_) AllReadyH.nil
      go_simp
      refine (part_at g o _ cap k _ K1.out k4).mono ?_
      rintro e w' ⟨rfl, rfl⟩
      go_wp2_with fail
      refine hK.out _ _ trivial (fun hHeld => ?_)
      clear hK K
      try simp only [Act.put, List.getElem_toArray, List.getElem_cons_succ, List.getElem_cons_zero, List.setIfInBounds_toArray, List.set_cons_zero, List.set_cons_succ]
      refine wpAnyH_ready (rs := [4]) (by kernel_rfl) (by simp) ?_
      refine AllReadyH.cons (by rfl) (fun K hK => ?_) AllReadyH.nil
      refine step_copy rfl (.tmp 29) (.tmp 32) (by rfl) Try.underlying22 size5 b7 0 512 512 (some ⟨g, o + k * 512, none⟩) 512 512 (by simp [Act.eval]) (by simp [Act.eval]) zs (chunk l k) (drew_blk Z1.out) (by rw [CL.out]; rfl) RW1.out.drew (by rw [CL.out, zs_length]; exact Nat.le_refl _) ?_
      intro w6 hb6 hg6 hs6
      rw [splice_zs _ CL.out] at hb6
      have Z6 := Lib.hid hb6
      have HD6 := Lib.hid (HD1.out.drew.keep (fun q hq => hg6.block q (HD1.out.lt q hq).1 (fun e => by injection e with e; have := HP.out q hq; omega)))
      have HB6 := Lib.hid (HB1.out.drew.grown hg6 HB1.out.size (fun q e => by injection e with e; have := NB.out; omega))
      clear hb6 hg6 hs6 Z1 RW1 HD1 HB1
      refine hK.out _ _ trivial (fun hHeld => ?_)
      clear hK K
      try simp only [Act.put, List.getElem_toArray, List.getElem_cons_succ, List.getElem_cons_zero, List.setIfInBounds_toArray, List.set_cons_zero, List.set_cons_succ]
      refine wpAnyH_done (by kernel_rfl) ?_ _
      refine OnlyN.normal ?_
      clear hHeld
      obtain ⟨w8, hupd, u1, u2, u3⟩ := HD6.out.drew.map.update k (chunk l k)
      have UE := Lib.hid (ofL_step l k)
      have U1 : Hid (SecMap w8 pl.m (upL (ofL l k) k (chunk l k))) := u1
      have UF := Lib.hid (show Fr (· = pl.m) w6 w8 from ((Fr.refl _ w6).drew.grown u2 (fun q e _ => by injection e with e; exact e.symm)))
      clear u1 u2 u3
      go_wp2_with fail
      refine wp_region_U (S := fun w' => w'.cell? ⟨w.heap.size + 1, 1, none⟩ = some (.map (some pl.m)) ∧ w'.rangeAt b7 0 (bv (chunk l k))) 6 (by kernel_rfl) ⟨HD6.out.drew.c1, (drew_blk Z6.out).rangeAt⟩ (fun hHeld => ?_)
      refine wpAnyU_take (i := 0) (v := ?v4) rfl (by kernel_rfl) (by kernel_rfl) (by kernel_rfl) (by kernel_rfl) (fun _ _ _ h => h) (Or.inl ⟨by rfl, ?hy4⟩) hHeld ?rest4
      case hy4 =>
        intro w' hSw
        try dsimp only at hSw
        go_simp
        first | done | with_reducible rfl
      try simp only [Act.put, List.getElem_toArray, List.getElem_cons_zero, List.setIfInBounds_toArray, List.set_cons_zero, List.set_cons_succ]
      refine wpAnyU_take (i := 1) (v := ?v5) rfl (by kernel_rfl) (by kernel_rfl) (by kernel_rfl) (by kernel_rfl) (fun _ _ _ h => h) (Or.inl ⟨by rfl, ?hy5⟩) hHeld ?rest5
      case hy5 =>
        intro w' hSw
        try dsimp only at hSw
        go_simp
        first | done | with_reducible rfl
      try simp only [Act.put, List.getElem_toArray, List.getElem_cons_succ, List.getElem_cons_zero, List.setIfInBounds_toArray, List.set_cons_zero, List.set_cons_succ]
      refine wpAnyU_take (i := 2) (v := ?v6) rfl (by kernel_rfl) (by kernel_rfl) (by kernel_rfl) (by kernel_rfl) (fun _ _ _ h => h) (Or.inl ⟨by rfl, ?hy6⟩) hHeld ?rest6
      case hy6 =>
        intro w' hSw
        try dsimp only at hSw
        go_simp
        first | done | with_reducible rfl
      try simp only [Act.put, List.getElem_toArray, List.getElem_cons_succ, List.getElem_cons_zero, List.setIfInBounds_toArray, List.set_cons_zero, List.set_cons_succ]
      refine wpAnyU_take (i := 3) (v := ?v7) rfl (by kernel_rfl) (by kernel_rfl) (by kernel_rfl) (by kernel_rfl) (fun _ _ _ h => h) (Or.inl ⟨by rfl, ?hy7⟩) hHeld ?rest7
      case hy7 =>
        intro w' hSw
        try dsimp only at hSw
        go_simp
        first | done | with_reducible rfl
      try simp only [Act.put, List.getElem_toArray, List.getElem_cons_succ, List.getElem_cons_zero, List.setIfInBounds_toArray, List.set_cons_zero, List.set_cons_succ]
      refine wpAnyU_take (i := 4) (v := ?v8) rfl (by kernel_rfl) (by kernel_rfl) (by kernel_rfl) (by kernel_rfl) (fun _ _ _ h => h) (Or.inl ⟨by rfl, ?hy8⟩) hHeld ?rest8
      case hy8 =>
        intro w' hSw
        try dsimp only at hSw
        go_simp
        first | done | with_reducible rfl
      try simp only [Act.put, List.getElem_toArray, List.getElem_cons_succ, List.getElem_cons_zero, List.setIfInBounds_toArray, List.set_cons_zero, List.set_cons_succ]
      refine wpAnyU_take (i := 5) rfl (by kernel_rfl) (by kernel_rfl) (by kernel_rfl) (by kernel_rfl) (fun _ _ _ h => h) (yieldsIf_load_mid (by rfl) 38 _ (by rfl) b7 0 (by rfl) (bv (chunk l k)) _ (fun w' hSw => hSw.2) Try.underlying38 rfl (by rw [bv_length, CL.out]; exact size47)) hHeld ?_
      try simp only [Act.put, List.getElem_toArray, List.getElem_cons_succ, List.getElem_cons_zero, List.setIfInBounds_toArray, List.set_cons_zero, List.set_cons_succ]
      refine wpAnyU_one (i := 6) (by kernel_rfl) (by rfl) (fun K hK => ?_)
      go_simp
      refine hK.out _ _ (.inl rfl) (fun hHeld => ?_)
      clear hK K
      try simp only [Act.put, List.getElem_toArray, List.getElem_cons_succ, List.getElem_cons_zero, List.setIfInBounds_toArray, List.set_cons_zero, List.set_cons_succ]
      refine wpAnyU_done (by kernel_rfl) ?_ _
      refine OnlyN.normal ?_
      have HD8 := Lib.hid (HD6.out.turned UF.out U1.out (by rw [UE.out]; exact ofL_length l s (k + 1) HL.out hlt))
      have HB8 := Lib.hid (HB6.out.trans (UF.out.to_below (B := w.heap.size) (fun q e => by have := HD6.out.bm; omega) HB6.out.size))
      have HD9 : Hid (DiskAt w8 w.heap.size (w.heap.size + 1) pl (ofD l s (k + 1))) := by
        have h9 := HD8.out
        rw [UE.out] at h9
        exact h9
      clear HD8 U1 UF Z6 HD6 HB6 UE
      go_wp2
      go_roundw
      case rel => exact ⟨k + 1, by omega, by go_num, HD9.out, HB8.out⟩
      case measure => simp [intOf]; omega
    · have hks : k = s := by omega
      subst hks
      have HD := Lib.hid hd
      have HB := Lib.hid hb
      clear hd hb
      go_wp2
      exact bodyPost_ret (results_tmp2 rfl _ _ _) rfl ⟨_, _, rfl, HD.out, HB.out⟩
end Go.Proofs.Ytgjamgojjajcnaa
namespace Go.Proofs.Ytgjamgojjajcnaa
open Go.RowKit
/-- the string of bytes -/
def st (l : List UInt8) : ByteArray := ⟨l.toArray⟩
set_option maxRecDepth 8000 in
theorem st_inj {a b : List UInt8} (h : st a = st b) : a = b := by
  have := congrArg (fun s : ByteArray => s.data.toList) h
  simpa [st] using this
set_option maxRecDepth 8000 in
theorem st_toList (a : List UInt8) : (st a).toList = a := by
  unfold st
  simp
set_option maxRecDepth 8000 in
theorem st_beq {a b : List UInt8} (h : a = b) : ((st a).toList == (st b).toList) = true := by subst h; simp
set_option maxRecDepth 8000 in
theorem st_bne {a b : List UInt8} (h : a ≠ b) : ((st a).toList == (st b).toList) = false := by
  rw [st_toList, st_toList, beq_eq_false_iff_ne]
  exact h
set_option maxRecDepth 8000 in
theorem run_str {P : Program} (w : World) {src dst e : TypeId} (hs : P.underlying src = some (.slice e)) (he : P.underlying e = some (.int .u8)) (hd : P.underlying dst = some .string)
    {A : Option Addr} {n c : Nat} {l : List UInt8} (hn : l.length = n) (hr : Rd w A l) : (convert src dst (.slice A n c)).run P w = .ok (.string (st l)) w := by
  cases A with
  | none =>
    have hl : l = [] := by
      cases l with
      | nil => rfl
      | cons x l =>
        obtain ⟨b, off, h, _⟩ := hr 0 (by simp)
        cases h
    subst hl
    exact run_convert_bytes_nil w src e hs he n c dst hd
  | some ad =>
    cases l with
    | nil =>
      simp only [List.length_nil] at hn
      subst hn
      rw [run_convert_bytes_string w src dst e _ 0 c hs he hd, run_bytesToString w ad 0 c [] (by simp [loadCells, loadCellsFrom])]
      rfl
    | cons x l =>
      obtain ⟨b, off, h, _⟩ := hr 0 (by simp)
      injection h with h
      subst h
      have := run_convert_bytes_arg w src e hs he b off n c ((x :: l).map fun y => (y.toNat : Int)) (by rw [List.length_map]; exact hn) (fun i hi => by
        obtain ⟨b', off', h', hc⟩ := hr i (by omega)
        injection h' with h'
        injection h' with h1 h2
        subst h1; subst h2
        rw [hc, List.getD_eq_getElem?_getD, List.getElem?_map, List.getElem?_eq_getElem (by omega)]
        rfl) dst hd
      rw [this]
      congr 2
      unfold strOfNums st
      rw [List.map_map]
      congr 2
      have : ∀ y : UInt8, ((fun n : Int => UInt8.ofNat n.toNat) ∘ fun y : UInt8 => (y.toNat : Int)) y = y := by intro y; simp
      rw [funext this]
      simp
end Go.Proofs.Ytgjamgojjajcnaa
namespace Go.Proofs.Ytgjamgojjajcnaa
open Go.RowKit
theorem lit0 (w : World) : (w.alloc (.cells #[] 5)).ownsRow w.heap.size 5 1 (.slice (some ⟨w.heap.size, 0, none⟩) 0 0) 0 (bv []) := World.ownsRow_lit w #[] 0 (Nat.le_refl _) (Nat.zero_le _) rfl
theorem below_lit0 (w : World) : Below w.heap.size w (w.alloc (.cells #[] 5)) := (Below.refl _ _).alloc (Nat.le_refl _) _
set_option maxRecDepth 8000 in
theorem take_snoc {α : Type} (l : List α) (k : Nat) (h : k < l.length) : l.take (k + 1) = l.take k ++ [l[k]] := by
  rw [List.take_succ_eq_append_getElem h]
set_option maxRecDepth 8000 in
theorem own_some {w : World} {base n : Nat} {e : TypeId} {v : Value} {xs : List Value} (h : w.ownsRow base e 1 v n xs) (hn : 0 < n) : ∃ g cap, v = .slice (some ⟨g, 0, none⟩) n cap ∧ n ≤ cap := by
  rcases h.2 with ⟨_, h0⟩ | ⟨g, cap, cur, h1, _, _, h2, _⟩
  · omega
  · exact ⟨g, cap, h1, h2⟩
set_option maxRecDepth 8000 in
theorem own_below {w w' : World} {base n : Nat} {e : TypeId} {v : Value} {xs : List Value} (h : w.ownsRow base e 1 v n xs) (hb : Below w.heap.size w w') : w'.ownsRow base e 1 v n xs := by
  refine h.kept (row := none) ⟨hb.os, hb.tape, hb.output, hb.size, fun k hk _ => hb.block k hk⟩ ?_
  cases hv : v.ownBlock with
  | none => exact .inl rfl
  | some k => exact .inr (by simp)
set_option maxRecDepth 8000 in
theorem own_cap {w : World} {base n cap : Nat} {e : TypeId} {C : Option Addr} {xs : List Value} (h : w.ownsRow base e 1 (.slice C n cap) n xs) : n ≤ cap := by
  rcases h.2 with ⟨h', h0⟩ | ⟨g, cap', cur, h', _, _, h1, _⟩
  · omega
  · injection h' with _ _ h'
    omega
/-- the first k bytes turned by one -/
def bump (k : Nat) (l : List UInt8) : List UInt8 := (l.take k).map (fun x => x + 1) ++ l.drop k
set_option maxRecDepth 8000 in
theorem bump_zero (l : List UInt8) : bump 0 l = l := by simp [bump]
set_option maxRecDepth 8000 in
theorem bump_length (k : Nat) (l : List UInt8) : (bump k l).length = l.length := by simp [bump]; omega
set_option maxRecDepth 8000 in
theorem bump_get (k : Nat) (l : List UInt8) (j : Nat) (hj : k ≤ j) (h : j < l.length) : (bump k l)[j]? = some l[j] := by
  unfold bump
  rw [List.getElem?_append_right (by simp; omega), List.length_map, List.length_take, List.getElem?_drop, Nat.min_eq_left (by omega), show k + (j - k) = j by omega, List.getElem?_eq_getElem h]
set_option maxRecDepth 8000 in
theorem bump_set (k : Nat) (l : List UInt8) (h : k < l.length) : (bv (bump k l)).set k (.int .u8 ((l[k] + 1).toNat : Int)) = bv (bump (k + 1) l) := by
  have e : (bump k l).set k (l[k] + 1) = bump (k + 1) l := by
    unfold bump
    rw [List.set_append_right _ _ (by simp; omega), List.length_map, List.length_take, Nat.min_eq_left (by omega), Nat.sub_self, List.drop_eq_getElem_cons h, take_snoc l k h, List.set_cons_zero, List.map_append, List.map_cons, List.map_nil, List.append_assoc]
    rfl
  rw [← e]
  simp [bv, List.map_set]
set_option maxRecDepth 8000 in
theorem u8_succ (x : UInt8) : ((x.toNat : Int) + 1) % 256 = ((x + 1).toNat : Int) := by
  rw [UInt8.toNat_add]
  simp
theorem grow_trans {a b c : World} {r : Option Nat} (h : a.grownBy b r) (k : b.grownBy c r) : a.grownBy c r :=
  ⟨k.os.trans h.os, k.tape.trans h.tape, k.output.trans h.output, Nat.le_trans h.size k.size, fun i hi hr => (k.block i (Nat.lt_of_lt_of_le hi h.size) hr).trans (h.block i hi hr)⟩
theorem below_grow {B : Nat} {a b c : World} {g : Nat} (h : Below B a b) (k : b.grownBy c (some g)) (hB : B ≤ g) (hb : B ≤ b.heap.size) : Below B a c := h.grown k hb fun i hi => by injection hi with hi; omega
end Go.Proofs.Ytgjamgojjajcnaa

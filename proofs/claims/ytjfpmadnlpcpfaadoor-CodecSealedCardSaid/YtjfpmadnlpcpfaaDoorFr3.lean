/- The document's own answer: an object's sector. -/
import Derived.Test.YtjfpmadnlpcpfaaDoorZW
namespace Go.Proofs.YtjfpmadnlpcpfaaDoor
open Go.RowKit
set_option maxRecDepth 8000 in
theorem slot_ok {u : Oj} {n : Int} (h : u.ok n) : ∀ x ∈ u.s, x.ok := by
  obtain ⟨_, hc, hl, hh⟩ := h
  have hzf : ∀ x ∈ zks, x.ok := fun x hx => by rw [(List.mem_replicate.1 hx).2]; exact zk_ok
  intro x hx
  rcases hh with h | h | h
  · exact (h.2 x hx).1
  · exact hzf x (h.2.2 ▸ hx)
  · exact hzf x (h.2.2.2 ▸ hx)
/-- while the sector's bytes come up -/
structure PS (w W : World) (u : Oj) (v : Value) (n : Nat) (l : List UInt8) : Prop where
  ob : Blk W w.heap.size obt u.cells.toArray
  r4 : Blk W (w.heap.size + 1) 45 (bv z512).toArray
  r6 : Blk W (w.heap.size + 2) 45 (bv z512).toArray
  own : W.ownsRow (w.heap.size + 3) 5 1 v n (bv l)
  size : w.heap.size + 3 ≤ W.heap.size
  below : Below w.heap.size w W
section
variable {w W W' : World} {u : Oj} {v : Value} {n : Nat} {l : List UInt8}
theorem PS.call (h : PS w W u v n l) (hb : Below W.heap.size W W') : PS w W' u v n l :=
  ⟨h.ob.keep hb, h.r4.keep hb, h.r6.keep hb, own_below h.own hb, Nat.le_trans h.size hb.size, h.below.trans (hb.mono h.below.size)⟩
set_option maxRecDepth 8000 in
theorem PS.cast (h : PS w W u v n l) {n' : Nat} {l' : List UInt8} (hn : n = n') (hl : l = l') : PS w W u v n' l' := by
  subst hn hl
  exact h
theorem PS.alloc (h : PS w W u v n l) (o : Obj) : PS w (W.alloc o) u v n l := h.call ((Below.refl _ _).alloc (Nat.le_refl _) _)
set_option maxRecDepth 8000 in
theorem PS.cells (h : PS w W u v n l) : W.cell? ⟨w.heap.size, 0, none⟩ = some (.int .i64 u.k) ∧ W.cell? ⟨w.heap.size, 1, none⟩ = some (.int .i64 u.c) ∧ W.cell? ⟨w.heap.size, 2, none⟩ = some (.int .i64 u.l) := by
  have := h.ob.ob.cells
  simpa using this
set_option maxRecDepth 8000 in
theorem wpList_append_ps {ops : Array Oper} {rest : List Oper} {o : Oper} {a : Act} {Q : Exit → Act → World → Prop} (hgd : o.guard = none) (h : PS w W u v n l) (s x : Operand) (ho : o.op = .call { callee := .builtin .append, args := #[s, x], argTypes := #[26, 26] })
    (hs : a.eval s = v) {A : Option Addr} {m c : Nat} {k : List UInt8} (hx : a.eval x = .slice A m c) (hr : Rd W A k) (hm : k.length = m) (hbig : n + m ≤ 100000000)
    (hK : ∀ v' W', PS w W' u v' (n + m) (l ++ k) → wpList Tryd.prog ops Q rest (a.put o.dst v') W') : wpList Tryd.prog ops Q (o :: rest) a W := by
  refine wpList_append_bytes _ hgd s x 26 ho Tryd.underlying26 infoU8 hs h.own hx hr hm hbig h.size ?_
  intro z x1 ho' hg ht
  have hne : ∀ j, j < w.heap.size + 3 → some j ≠ v.ownBlock := fun j hj e => by have := (h.own.lt j e.symm).1; omega
  exact hK z x1 ⟨(hg.block _ h.ob.lt (hne _ (by omega))).trans h.ob, (hg.block _ h.r4.lt (hne _ (by omega))).trans h.r4, (hg.block _ h.r6.lt (hne _ (by omega))).trans h.r6, ho', Nat.le_trans h.size hg.size,
    h.below.grown hg h.below.size (fun k hk => by have := (h.own.lt k hk).1; omega)⟩
end
def lenOf : Value → Nat
  | .slice _ n _ => n
  | _ => 0
set_option maxRecDepth 8000 in
theorem kks_take {s : List Ky} {k : Nat} (h : k < s.length) {x : Ky} (e : s[k] = x) : kks (s.take k) ++ kbs x = kks (s.take (k + 1)) := by
  rw [take_snoc s k h, kks_snoc, e]
set_option maxRecDepth 8000 in
theorem take_sn {α : Type} {s : List α} {k : Nat} (h : k < s.length) {x : α} (e : s[k] = x) : s.take k ++ [x] = s.take (k + 1) := by
  rw [take_snoc s k h, e]
set_option maxRecDepth 8000 in
theorem fill_set (sl : List UInt8) (hl : sl.length = 512) (j : Nat) (hj : j < 512) : (bv (sl.take j ++ z512.drop j)).toArray.setIfInBounds j (.int .u8 ((sl[j]'(by omega)).toNat : Int)) = (bv (sl.take (j + 1) ++ z512.drop (j + 1))).toArray := by
  have hz : z512.length = 512 := by unfold z512; exact List.length_replicate
  rw [List.setIfInBounds_toArray, take_snoc sl j (by omega), bv_append, bv_append, bv_append]
  congr 1
  have h1 : (bv (sl.take j)).length = j := by rw [bv_length, List.length_take]; omega
  rw [List.set_append_right _ _ (by rw [h1]; exact Nat.le_refl _), h1, Nat.sub_self]
  rw [List.drop_eq_getElem_cons (show j < z512.length by omega), List.append_assoc]
  rfl
set_option maxRecDepth 8000 in
theorem rcput_no (u : Oj) (n : Int) (w : World) (h : ¬ u.ok n) :
    Calls Tryd.prog 18 #[u.val, .int .i64 n] w fun e w' => e = .returned (.tuple #[sv z512, .int .i64 2]) ∧ Below w.heap.size w w' := by
  have hz := z45
  have HC := Lib.hid (Oj.chk_no h)
  have HB := Lib.hid ((((Below.refl w.heap.size w).alloc (Nat.le_refl _) (.cells u.cells.toArray obt)).alloc (by simp) (.cells (bv z512).toArray 45)).alloc (by simp; omega) (.cells (bv z512).toArray 45))
  have HO := Lib.hid (Blk.alloc (Blk.alloc (Blk.new w obt u.cells.toArray) (.cells (bv z512).toArray 45)) (.cells (bv z512).toArray 45)).ob
  have H4 := Lib.hid (Blk.alloc (Blk.new_of (w.alloc (.cells u.cells.toArray obt)) 45 (bv z512).toArray (g := w.heap.size + 1) (by simp)) (.cells (bv z512).toArray 45))
  have H6 := Lib.hid (Blk.new_of ((w.alloc (.cells u.cells.toArray obt)).alloc (.cells (bv z512).toArray 45)) 45 (bv z512).toArray (g := w.heap.size + 1 + 1) (by simp))
  have HL := Lib.hid (show z512.length = 512 from List.length_replicate)
  have HA := Lib.hid (show (Tryd.prog.info? 45).map (·.size) = some (bv z512).toArray.size by rw [List.size_toArray, bv_length, HL.out]; exact size45)
  clear h
  go_enter Tryd.func18, Tryd.ntmps18
  go_wp2_with (first
    | (show wpList _ _ _ ({ dst := some 14, op := .load _ _, type := _, pos := _, after := _, guard := _ } :: _) _ _; refine wpList_yields (S := fun w' => ObAt w' w.heap.size 0 u) (y_ob (by rfl) (.tmp 2) (by rfl) w.heap.size 0 (by rfl) u (fun _ h => h)) HO.out ?_)
    | (go_at_call 39; refine (rcheck_any u n _).mono ?_; rw [HC.out]; rintro e w1 ⟨rfl, hb⟩; have B1 := Lib.hid (HB.out.trans (hb.mono HB.out.size)); have R4 := Lib.hid (Blk.keep H4.out hb); have R6 := Lib.hid (Blk.keep H6.out hb); clear hb)
    | (show wpList _ _ _ ({ dst := some 18, op := .load _ _, type := _, pos := _, after := _, guard := _ } :: _) _ _; refine wpList_yields (S := fun w' => w'.rangeAt (w.heap.size + 1 + 1) 0 (bv z512)) (y_sec (by rfl) (.tmp 6) (by rfl) (w.heap.size + 1 + 1) 0 (by rfl) z512 HL.out (fun _ h => h)) (rd_range (rd_blk R6.out)) ?_)
    | (show wpList _ _ _ ({ dst := none, op := .store _ _ _, type := _, pos := _, after := _, guard := _ } :: _) _ _; refine wpList_store_row rfl 45 (.tmp 4) (.tmp 18) rfl (w.heap.size + 1) (bv z512).toArray rfl rfl 45 (bv z512).toArray R4.out HA.out rfl (bv_all _) ?_))
  have h4 := setRow_heap w1 (w.heap.size + 1) (bv z512).toArray (bv z512).toArray 45 (0, 0) R4.out
  have h5 : Below w.heap.size w (w1.setRow (w.heap.size + 1) (bv z512).toArray) := B1.out.trans (below_lt (setRow_fr w1 _ _) B1.out.size (fun j hj => by omega))
  exact bodyPost_ret (res_1t rfl _ _ (w.heap.size + 1) _ _ rfl rfl (load_sec _ HL.out h4)) rfl ⟨rfl, h5⟩
theorem lit4 (w : World) (x : UInt8) : (w.alloc (.cells #[.int .u8 (x.toNat : Int), .int .u8 0, .int .u8 0, .int .u8 0] 5)).ownsRow w.heap.size 5 1 (.slice (some ⟨w.heap.size, 0, none⟩) 4 4) 4 (bv ([x] ++ List.replicate 3 0)) :=
  World.ownsRow_lit w #[.int .u8 (x.toNat : Int), .int .u8 0, .int .u8 0, .int .u8 0] 4 (Nat.le_refl _) (by simp only [maxLen]; omega) rfl
set_option maxRecDepth 8000 in
set_option maxHeartbeats 8000000 in
theorem rcput_yes0 (u : Oj) (kb : UInt8) (cn ln : Nat) (hk : u.k = (kb.toNat : Int)) (hc : u.c = (cn : Int)) (hl : u.l = (ln : Int)) (hcn : cn < 4294967296) (hln : ln < 4294967296) (n : Int) (w : World) (h : u.ok n) (hf : u.fit) :
    Calls Tryd.prog 18 #[u.val, .int .i64 n] w fun e w' => e = .returned (.tuple #[sv (sealN (obs u)), .int .i64 0]) ∧ Below w.heap.size w w' := by
  have hz := z45
  have HC := Lib.hid (Oj.chk_yes h)
  have HS := Lib.hid (slot_ok h)
  have HFS := Lib.hid hf.s
  have HB := Lib.hid ((((Below.refl w.heap.size w).alloc (Nat.le_refl _) (.cells u.cells.toArray obt)).alloc (by simp) (.cells (bv z512).toArray 45)).alloc (by simp; omega) (.cells (bv z512).toArray 45))
  have HO := Lib.hid (Blk.alloc (Blk.alloc (Blk.new w obt u.cells.toArray) (.cells (bv z512).toArray 45)) (.cells (bv z512).toArray 45))
  have H4 := Lib.hid (Blk.alloc (Blk.new_of (w.alloc (.cells u.cells.toArray obt)) 45 (bv z512).toArray (g := w.heap.size + 1) (by simp)) (.cells (bv z512).toArray 45))
  have H6 := Lib.hid (Blk.new_of ((w.alloc (.cells u.cells.toArray obt)).alloc (.cells (bv z512).toArray 45)) 45 (bv z512).toArray (g := w.heap.size + 2) (by simp))
  have HL := Lib.hid (show z512.length = 512 from List.length_replicate)
  have HK := Lib.hid hk
  have HCN := Lib.hid hc
  have HLN := Lib.hid hl
  have HN := Lib.hid (show cn < 18446744073709551616 ∧ ln < 18446744073709551616 by omega)
  have e1 := wrap_u8 kb
  have e3 := wrap_u64n cn (by omega)
  have e4 := wrap_u64n ln (by omega)
  have M1 := Lib.hid True.intro
  have M2 := Lib.hid True.intro
  clear h hf hk hc hl hcn hln
  go_enter Tryd.func18, Tryd.ntmps18
  go_wp2_with (first
    | (show wpList _ _ _ ({ dst := some 14, op := .load _ _, type := _, pos := _, after := _, guard := _ } :: _) _ _; refine wpList_yields (S := fun w' => ObAt w' w.heap.size 0 u) (y_ob (by rfl) (.tmp 2) (by rfl) w.heap.size 0 (by rfl) u (fun _ h => h)) HO.out.ob ?_)
    | (go_at_call 39; refine (rcheck_any u n _).mono ?_; rw [HC.out]; rintro e w1 ⟨rfl, hb⟩; have P1 := Lib.hid (show PS w (w1.alloc (.cells #[.int .u8 (kb.toNat : Int), .int .u8 0, .int .u8 0, .int .u8 0] 5)) u (.slice (some ⟨w1.heap.size, 0, none⟩) 4 4) 4 ([kb] ++ List.replicate 3 0) from ⟨(Blk.keep HO.out hb).alloc _, (Blk.keep H4.out hb).alloc _, (Blk.keep H6.out hb).alloc _, own_base (lit4 w1 kb) (Blk.lt (Blk.keep H6.out hb)), by have := Blk.lt (Blk.keep H6.out hb); simp; omega, (HB.out.trans (hb.mono HB.out.size)).alloc (Nat.le_trans HB.out.size hb.size) _⟩); have c0 := (Blk.keep HO.out hb).ob.cells.1; rw [HK.out] at c0; obtain ⟨-, d1, d2⟩ := P1.out.cells; rw [HCN.out] at d1; rw [HLN.out] at d2; clear hb HO H4 H6 HB)
    | (go_at_call 28; clear M1; refine (low_4 cn _ HN.out.1).mono ?_; rintro e u1 ⟨v1, rfl, ho, hb⟩; obtain ⟨D1, k1, rfl, -, -, -, hr, -⟩ := own_cell (by decide) ho; have R1 := Lib.hid hr; have P2 := Lib.hid (P1.out.call hb); clear ho hb hr P1 c0 d1 d2)
    | (at_builtin; refine wpList_append_ps rfl P2.out _ _ rfl rfl rfl R1.out (bytesLE_length 4 cn) (by omega) ?_; intro z1 x1 ho; have P3 := Lib.hid ho; obtain ⟨-, -, d2⟩ := P3.out.cells; rw [HLN.out] at d2; clear ho P2 R1)
    | (go_at_call 28; clear M2; refine (low_4 ln _ HN.out.2).mono ?_; rintro e u2 ⟨v2, rfl, ho, hb⟩; obtain ⟨D2, k2, rfl, -, -, -, hr, -⟩ := own_cell (by decide) ho; have R2 := Lib.hid hr; have P4 := Lib.hid (P3.out.call hb); clear ho hb hr P3 d2)
    | (at_builtin; refine wpList_append_ps rfl P4.out _ _ rfl rfl rfl R2.out (bytesLE_length 4 ln) (by omega) ?_; intro z2 x2 ho; have P5 := Lib.hid ho; clear ho P4 R2))
  obtain ⟨L0, hL0⟩ : ∃ L, L = [kb] ++ List.replicate 3 0 ++ bytesLE 4 cn ++ bytesLE 4 ln := ⟨_, rfl⟩
  have HL0 := Lib.hid (show [UInt8.ofNat u.k.toNat] ++ (List.replicate 3 0 ++ (bytesLE 4 u.c.toNat ++ (bytesLE 4 u.l.toNat ++ (kks u.s ++ (u.b ++ List.replicate 112 0))))) = L0 ++ kks u.s ++ u.b ++ List.replicate 112 0 by
    rw [hL0, HK.out, HCN.out, HLN.out]
    simp)
  have HQ := Lib.hid (P5.out.cast (show 4 + 4 + 4 = 12 from rfl) hL0.symm)
  clear P5 hL0
  go_loopw [7, 8] (fun v i wr => ∃ k : Nat, k ≤ 16 ∧ i = .int .i64 k ∧ PS w wr u v (12 + 20 * k) (L0 ++ kks (u.s.take k))) (fun _ i _ => 17 - (intOf i).toNat)
  case atStart => exact ⟨0, by omega, rfl, HQ.out.cast rfl (by simp [kks])⟩
  case round =>
    clear HQ
    obtain ⟨k, hk', rfl, hp⟩ := hrel
    have P := Lib.hid hp
    clear hp
    by_cases hlt : k < 16
    · have hks : k < u.s.length := by rw [u.hs]; exact hlt
      obtain ⟨x, hx⟩ : ∃ x, u.s[k]'hks = x := ⟨_, rfl⟩
      have HE := Lib.hid (kks_take hks hx)
      have HKS := Lib.hid hks
      have HOK := Lib.hid (HS.out x (hx ▸ List.getElem_mem hks))
      have HXF := Lib.hid (HFS.out x (hx ▸ List.getElem_mem hks))
      obtain ⟨c0, c1, c2, c3, c4, c5⟩ := key_x P.out.ob.ob hks hx
      have i1 : (k : Int) < 16 := by omega
      clear hx hks
      go_wp2_with (first
        | (go_at_call 12; refine (rputkey_yes x HOK.out HXF.out _).mono ?_; rintro e u1 ⟨v1, rfl, ho, hb⟩; obtain ⟨D1, k1, rfl, -, -, -, hr, -⟩ := own_cell (by decide) ho; have R1 := Lib.hid hr; have P2 := Lib.hid (P.out.call hb); clear ho hb hr P c0 c1 c2 c3 c4 c5)
        | (at_builtin; refine wpList_append_ps rfl P2.out _ _ rfl rfl rfl R1.out (kbs_length x) (by omega) ?_; intro z1 x1 ho; have P3 := Lib.hid ho; clear ho P2 R1))
      go_roundw
      case rel => exact ⟨k + 1, by omega, by go_num, P3.out.cast (by omega) (by rw [List.append_assoc, HE.out])⟩
      case measure => simp [intOf]; omega
    · obtain rfl : k = 16 := by omega
      rw [show ((16 : Nat) : Int) = 16 from rfl]
      have HQ := Lib.hid (P.out.cast (show 12 + 20 * 16 = 332 from rfl) (show L0 ++ kks (u.s.take 16) = L0 ++ kks u.s by rw [List.take_of_length_le (by rw [u.hs]; exact Nat.le_refl _)]))
      clear P
      go_wp2
      go_loopw [7, 11] (fun v i wr => ∃ k : Nat, k ≤ 64 ∧ i = .int .i64 k ∧ PS w wr u v (332 + k) (L0 ++ kks u.s ++ u.b.take k)) (fun _ i _ => 65 - (intOf i).toNat)
      case atStart => exact ⟨0, by omega, rfl, HQ.out.cast rfl (by simp)⟩
      case round =>
        clear HQ
        obtain ⟨k, hk', rfl, hp⟩ := hrel
        have P := Lib.hid hp
        clear hp
        by_cases hlt : k < 64
        · have hks : k < u.b.length := by rw [u.hb]; exact hlt
          obtain ⟨x, hx⟩ : ∃ x, u.b[k]'hks = x := ⟨_, rfl⟩
          have HE := Lib.hid (take_sn hks hx)
          have c0 := byte_of_range P.out.ob.ob.bytes k hks
          rw [hx, Nat.zero_add] at c0
          have i1 : (k : Int) < 64 := by omega
          have PA := Lib.hid (P.out.alloc (.cells #[.int .u8 (x.toNat : Int)] 5))
          clear hx hks
          go_wp2_with (at_builtin; refine wpList_append_ps rfl PA.out _ _ rfl rfl rfl (rd_one _ x 5) rfl (by omega) ?_; intro z1 x1 ho; have P3 := Lib.hid ho; clear ho P PA c0)
          go_roundw
          case rel => exact ⟨k + 1, by omega, by go_num, P3.out.cast (by omega) (by rw [List.append_assoc, HE.out])⟩
          case measure => simp [intOf]; omega
        · obtain rfl : k = 64 := by omega
          rw [show ((64 : Nat) : Int) = 64 from rfl]
          have HQ := Lib.hid (P.out.cast (show 332 + 64 = 396 from rfl) (show L0 ++ kks u.s ++ u.b.take 64 = L0 ++ kks u.s ++ u.b by rw [List.take_of_length_le (by rw [u.hb]; exact Nat.le_refl _)]))
          clear P
          obtain ⟨g0, q0, rfl, -⟩ := own_some HQ.out.own (by omega)
          go_wp2
          go_loopw [7] (fun v wr => ∃ (q g c : Nat), q ≤ 112 ∧ v = .slice (some ⟨g, 0, none⟩) (396 + q) c ∧ PS w wr u (.slice (some ⟨g, 0, none⟩) (396 + q) c) (396 + q) (L0 ++ kks u.s ++ u.b ++ List.replicate q 0)) (fun v _ => 600 - lenOf v)
          case atStart => exact ⟨0, g0, q0, by omega, rfl, HQ.out.cast rfl (by simp)⟩
          case round =>
            clear HQ
            obtain ⟨q, g, c, hq, rfl, hp⟩ := hrel
            have P := Lib.hid hp
            clear hp
            by_cases hlt : q < 112
            · have d0 : decide (((396 + q : Nat) : Int) < 508) = true := decide_eq_true (by omega)
              have d1 : ((396 : Int) + (q : Int)) < 508 := by omega
              have PA := Lib.hid (P.out.alloc (.cells #[.int .u8 0] 5))
              go_wp2_with (at_builtin; refine wpList_append_ps rfl PA.out _ _ rfl rfl rfl (rd_new _ 0 5 rfl) rfl (by omega) ?_; intro z1 x1 ho; obtain ⟨g1, c1, rfl, -⟩ := own_some ho.own (by omega); have P3 := Lib.hid ho; clear ho P PA)
              go_roundw
              case rel => exact ⟨q + 1, g1, c1, by omega, rfl, P3.out.cast rfl (by rw [List.append_assoc, List.replicate_succ'])⟩
              case measure => simp [lenOf]; omega
            · obtain rfl : q = 112 := by omega
              have HQ := Lib.hid (P.out.cast (show 396 + 112 = 508 from rfl) (show L0 ++ kks u.s ++ u.b ++ List.replicate 112 0 = obs u by unfold obs; exact HL0.out.symm))
              clear P
              have RD := Lib.hid (Rd.of_own HQ.out.own)
              go_wp2_with (go_at_call 21; refine (rseal_any _ 508 _ (obs u) _ (obs_length u) RD.out (by decide)).mono ?_; rintro e u1 ⟨v1, rfl, ho, hb⟩; obtain ⟨D1, k1, rfl, -, hD1, -, hr, -⟩ := own_cell (by decide) ho; have R1 := Lib.hid hr; have P2 := Lib.hid (HQ.out.call hb); have HD := Lib.hid (Nat.le_trans HQ.out.size hD1); clear ho hb hr HQ RD hD1)
              have H4 := Lib.hid P2.out.r4
              have H6 := Lib.hid P2.out.r6
              have HB := Lib.hid P2.out.below
              have HLS := Lib.hid (sealed_len u)
              obtain ⟨sl, hsl⟩ : ∃ sl, sealN (obs u) = sl := ⟨_, rfl⟩
              rw [hsl] at R1 HLS
              have HSL := Lib.hid hsl
              clear P2 hsl
              go_loopw [13] (fun i wr => ∃ j : Nat, j ≤ 512 ∧ i = .int .i64 j ∧ Blk wr (w.heap.size + 2) 45 (bv (sl.take j ++ z512.drop j)).toArray ∧ Blk wr (w.heap.size + 1) 45 (bv z512).toArray ∧ wr.heap[D1]? = u1.heap[D1]? ∧ Below w.heap.size w wr) (fun i _ => 513 - (intOf i).toNat)
              case atStart => exact ⟨0, by omega, rfl, H6.out, H4.out, rfl, HB.out⟩
              case round =>
                clear H4 H6 HB
                obtain ⟨j, hj, rfl, h6, h4, hD, hb⟩ := hrel
                have H6 := Lib.hid h6
                have H4 := Lib.hid h4
                have HDD := Lib.hid hD
                have HB := Lib.hid hb
                by_cases hlt : j < 512
                · have hjs : j < sl.length := by rw [HLS.out]; exact hlt
                  have c0 := (World.cell?_of_block (a := ⟨D1, 0 + j, none⟩) hD).trans (byte_of_range (rd_range R1.out) j hjs)
                  rw [Nat.zero_add] at c0
                  have hF := fill_set sl HLS.out j hlt
                  obtain ⟨x, hx⟩ : ∃ x, sl[j]'hjs = x := ⟨_, rfl⟩
                  rw [hx] at c0 hF
                  have HF := Lib.hid hF
                  have hz2 : (bv (sl.take j ++ z512.drop j)).length = 512 := by rw [bv_length, List.length_append, List.length_take, List.length_drop, HLS.out, HL.out]; omega
                  obtain ⟨y, hy⟩ : ∃ y, (bv (sl.take j ++ z512.drop j)).toArray[j]? = some y := ⟨_, Array.getElem?_eq_getElem (by rw [List.size_toArray, hz2]; exact hlt)⟩
                  have c2 : wr.cell? ⟨w.heap.size + 2, j, none⟩ = some y := (h6.cell j).trans hy
                  have f2 : wr.frozen? ⟨w.heap.size + 2, j, none⟩ = false := h6.frozen j
                  have i1 : (j : Int) < 512 := by omega
                  clear h6 h4 hD hb hy hx hz2 hjs hF
                  go_wp2
                  go_roundw
                  case rel => exact ⟨j + 1, by omega, by go_num, by have h := H6.out.set_ j (.int .u8 (x.toNat : Int)); rw [HF.out] at h; exact h, H4.out.far (by simp) _, (Below.heap_setCell _ _ _ _ (by have := HD.out; simp; omega)).trans HDD.out, HB.out.setCell (p := ⟨w.heap.size + 2, j, none⟩) (by simp) _⟩
                  case measure => simp [intOf]; omega
                · obtain rfl : j = 512 := by omega
                  have e6 : bv (sl.take 512 ++ z512.drop 512) = bv sl := by rw [List.take_of_length_le (by rw [HLS.out]; exact Nat.le_refl _), List.drop_of_length_le (by rw [HL.out]; exact Nat.le_refl _), List.append_nil]
                  rw [e6] at h6
                  have R6 := Lib.hid h6
                  have HA := Lib.hid (show (Tryd.prog.info? 45).map (·.size) = some (bv sl).toArray.size by rw [List.size_toArray, bv_length, HLS.out]; exact size45)
                  have HO2 := Lib.hid (show (bv z512).toArray.size = (bv sl).toArray.size by rw [List.size_toArray, List.size_toArray, bv_length, bv_length, HLS.out, HL.out])
                  clear h6 h4 hD hb H6 e6
                  go_wp2_with (first
                    | (show wpList _ _ _ ({ dst := some 79, op := .load _ _, type := _, pos := _, after := _, guard := _ } :: _) _ _; refine wpList_yields (S := fun w' => w'.rangeAt (w.heap.size + 2) 0 (bv sl)) (y_sec (by rfl) (.tmp 6) (by rfl) (w.heap.size + 2) 0 (by rfl) sl HLS.out (fun _ h => h)) (rd_range (rd_blk R6.out)) ?_)
                    | (show wpList _ _ _ ({ dst := none, op := .store _ _ _, type := _, pos := _, after := _, guard := _ } :: _) _ _; refine wpList_store_row rfl 45 (.tmp 4) (.tmp 79) rfl (w.heap.size + 1) (bv sl).toArray rfl rfl 45 (bv z512).toArray H4.out HA.out HO2.out (bv_all _) ?_))
                  have h4 := setRow_heap wr (w.heap.size + 1) (bv z512).toArray (bv sl).toArray 45 (0, 0) H4.out
                  have h5 : Below w.heap.size w (wr.setRow (w.heap.size + 1) (bv sl).toArray) := HB.out.trans (below_lt (setRow_fr wr _ _) HB.out.size (fun j hj => by omega))
                  exact bodyPost_ret (res_1t rfl _ _ (w.heap.size + 1) _ _ rfl rfl (load_sec _ HLS.out h4)) rfl ⟨by rw [HSL.out]; rfl, h5⟩
set_option maxRecDepth 8000 in
theorem rcput_yes (u : Oj) (n : Int) (w : World) (h : u.ok n) (hf : u.fit) :
    Calls Tryd.prog 18 #[u.val, .int .i64 n] w fun e w' => e = .returned (.tuple #[sv (sealN (obs u)), .int .i64 0]) ∧ Below w.heap.size w w' := by
  have hk := hf.k
  have hc := hf.c
  have hl := hf.l
  obtain ⟨cn, hcn⟩ := Int.eq_ofNat_of_zero_le hc.1
  obtain ⟨ln, hln⟩ := Int.eq_ofNat_of_zero_le hl.1
  exact rcput_yes0 u (UInt8.ofNat u.k.toNat) cn ln (by simp; omega) hcn hln (by omega) (by omega) n w h hf
end Go.Proofs.YtjfpmadnlpcpfaaDoor

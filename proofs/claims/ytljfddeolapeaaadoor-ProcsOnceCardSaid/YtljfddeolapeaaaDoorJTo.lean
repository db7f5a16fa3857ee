/- procs: what was told last. -/
import Derived.Test.YtljfddeolapeaaaDoorJAn
namespace Go.Proofs.YtljfddeolapeaaaDoor
open List renaming getElem_toArray → zq1, getElem_cons_succ → zq2, getElem_cons_zero → zq3, setIfInBounds_toArray → zq4, set_cons_zero → zq5, set_cons_succ → zq6
open Go.RowKit
theorem y_cstrJ {ops : Array Oper} {o : Oper} {a : Act} {S : World → Prop} (hw : Region.wanted o (yielded ops a.tmps) = true) (x : Operand) (ho : o.op = .convert 124 9 x) (A : Option Addr) (n c : Nat) (l : List UInt8) (hx : a.eval x = .slice A n c) (hn : l.length = n) (hS : ∀ w, S w → Rd w A l) : YieldsIf Tryd.prog ops S o (.string (st l)) a := .inl ⟨hw, fun w h => by
  have := run_str (P := Tryd.prog) w Tryd.underlying124 Tryd.underlying5 Tryd.underlying9 (A := A) (c := c) hn (hS w h)
  unfold execOp
  simp only [ho, Sem.run_bind, hx, this, Result.andThen_ok, Sem.run_pure]⟩
set_option maxRecDepth 8000 in
theorem cut1n (g off n : Nat) (h : n ≤ 63) (W : World) : (Instr.sliceAt 54 (.pointer (some ⟨g, off, none⟩)) (some (.int .i64 1)) (some (.int .i64 (1 + (n : Int)))) none).run Tryd.prog W = .ok (.slice (some ⟨g, off + 1, none⟩) n 63) W := by
  have := run_cut g off 1 n (by omega) W
  simpa [cutP] using this
set_option maxRecDepth 8000 in
theorem wrap64 {n : Int} (h : 0 ≤ n ∧ n ≤ 4294967296) : IntKind.i64.wrap n = n := by
  simp only [IntKind.wrap, IntKind.bits, IntKind.signed]
  simp
  omega
set_option maxRecDepth 8000 in
theorem tolC_len (os : List Oj) (u : Oj) (i : Nat) (hi : i ≤ 3) : (((K3 u).take i).map (prepd os) ++ [zk, zk, zk].drop i).length = 3 := by
  rw [List.length_append, List.length_map, List.length_take, List.length_drop]
  show min i 3 + (3 - i) = 3
  omega
/-- what was told, with i of its keys -/
noncomputable def tolC (os : List Oj) (u : Oj) (i : Nat) (hi : i ≤ 3) : Mg := ⟨codK (slt u 3), datB u.b, ((K3 u).take i).map (prepd os) ++ [zk, zk, zk].drop i, tolC_len os u i hi⟩
set_option maxRecDepth 8000 in
theorem tolC_all (os : List Oj) (u : Oj) : tolC os u 3 (by omega) = tolM os u := by
  unfold tolC tolM K3
  simp
set_option maxRecDepth 8000 in
theorem tolC_succ (os : List Oj) (u : Oj) (i : Nat) (hi : i < 3) : (tolC os u i (by omega)).ksAs ((tolC os u i (by omega)).k.set i (prepd os (slt u (12 + i)))) (by rw [List.length_set]; exact (tolC os u i (by omega)).hk) = tolC os u (i + 1) hi := by
  match i, hi with
  | 0, _ => rfl
  | 1, _ => rfl
  | 2, _ => rfl
structure Jtw (w wr : World) (base q : Nat) (A : Option Addr) (cap : Nat) (ps : List Nat) (os : List Oj) (g off : Nat) (t : TypeId) (X Y : List Value) (x : Int) (u : Oj) (i : Nat) : Prop where
  bel : Below w.heap.size w wr
  st : StAt wr base q A cap ps os
  tab : Tab wr
  nd : NdB wr g off t X Y (some ⟨q, 0, none⟩) x u
  res : ∃ h : i ≤ 3, Blk wr w.heap.size 38 (tolC os u i h).cells.toArray
section
variable {w : World} {base q : Nat} {A : Option Addr} {cap : Nat} {ps : List Nat} {os : List Oj} {g off : Nat} {t : TypeId} {X Y : List Value} {x : Int} {u : Oj}
set_option maxRecDepth 100000 in
set_option maxHeartbeats 4000000 in
theorem told_a (h : NdB w g off t X Y (some ⟨q, 0, none⟩) x u) (hs : StAt w base q A cap ps os) (hn : 0 < os.length) (hT : Tab w) (hk : (slt u 3).k = 1) (hd : ((u.b[0]?).getD 0).toNat ≤ 32) : Calls Tryd.prog 54 #[.pointer (some ⟨g, off, none⟩)] w fun e w' => e = .returned (tolM os u).val ∧ Below w.heap.size w w' := by
  have hz := zM
  have hzl := mz.len
  have HGL := Lib.hid h.lt
  have HNP := Lib.hid (show w.heap.size ≠ q by have := (hs.lt q (.inl rfl)).2; omega)
  have HN := Lib.hid hn
  have HTW := Lib.hid hT
  have HK := Lib.hid (show KeyAt (w.alloc (.cells mz.cells.toArray 38)) g (off + 21) (slt u 3) from (h.alloc (.cells mz.cells.toArray 38)).slot (i := 3) (by decide))
  have HK1 := Lib.hid (Blk.new_of (w.alloc (.cells mz.cells.toArray 38)) 33 (kl (slt u 3)).toArray (g := w.heap.size + 1) (by simp))
  have hkl := kl_len (slt u 3)
  obtain ⟨k0, k1, k2, k3, k4, k5⟩ := HK1.out.six
  have dk : ((slt u 3).k == 1) = true := by simpa using hk
  have hck : codK (slt u 3) = (slt u 3).v := if_pos hk
  have HB1 := Lib.hid (((Below.refl w.heap.size w).alloc (Nat.le_refl _) (.cells (mz.cells.set 0 (.int .i64 (slt u 3).v)).toArray 38)).alloc (by simp) (.cells (kl (slt u 3)).toArray 33))
  have HR1 := Lib.hid (show Blk ((w.alloc (.cells (mz.cells.set 0 (.int .i64 (slt u 3).v)).toArray 38)).alloc (.cells (kl (slt u 3)).toArray 33)) w.heap.size 38 ({ mz with c := (slt u 3).v } : Mg).cells.toArray from (Blk.new w 38 (mz.cells.set 0 (.int .i64 (slt u 3).v)).toArray).alloc (.cells (kl (slt u 3)).toArray 33))
  have HD1 := Lib.hid ((h.alloc (.cells (mz.cells.set 0 (.int .i64 (slt u 3).v)).toArray 38)).alloc (.cells (kl (slt u 3)).toArray 33))
  have HS1 := Lib.hid ((hs.alloc (.cells (mz.cells.set 0 (.int .i64 (slt u 3).v)).toArray 38)).alloc (.cells (kl (slt u 3)).toArray 33))
  have hb0 : 0 < u.b.length := by rw [u.hb]; decide
  have hbe : (u.b[0]?).getD 0 = u.b[0] := by rw [List.getElem?_eq_getElem hb0]; rfl
  have b0 : ((w.alloc (.cells (mz.cells.set 0 (.int .i64 (slt u 3).v)).toArray 38)).alloc (.cells (kl (slt u 3)).toArray 33)).cell? ⟨g, off + 99, none⟩ = some (.int .u8 (((u.b[0]?).getD 0).toNat : Int)) := by
    rw [hbe]
    exact byte_of_range HD1.out.ob.bytes 0 hb0
  have HRD := Lib.hid (show Rd ((w.alloc (.cells (mz.cells.set 0 (.int .i64 (slt u 3).v)).toArray 38)).alloc (.cells (kl (slt u 3)).toArray 33)) (some ⟨g, off + 100, none⟩) ((u.b.drop 1).take ((u.b[0]?).getD 0).toNat) from fun j hj => by
    have hj' : j < 63 := by rw [List.length_take, List.length_drop, u.hb] at hj; omega
    refine ⟨g, off + 100, rfl, ?_⟩
    have := byte_of_range HD1.out.ob.bytes (1 + j) (by rw [u.hb]; omega)
    rw [show off + 100 + j = off + 99 + (1 + j) by omega, this]
    simp [Nat.add_comm])
  have hwn : IntKind.i64.wrap (((u.b[0]?).getD 0).toNat : Int) = (((u.b[0]?).getD 0).toNat : Int) := wrap64 (by have := ((u.b[0]?).getD 0).toNat_lt; omega)
  have hdb : datB u.b = (u.b.drop 1).take ((u.b[0]?).getD 0).toNat := if_pos hd
  have HL := Lib.hid (show ((u.b.drop 1).take ((u.b[0]?).getD 0).toNat).length = ((u.b[0]?).getD 0).toNat by rw [List.length_take, List.length_drop, u.hb]; omega)
  have d32 : decide ((((u.b[0]?).getD 0).toNat : Int) ≤ 32) = true := decide_eq_true (by omega)
  have hw1 : IntKind.i64.wrap (1 + (((u.b[0]?).getD 0).toNat : Int)) = 1 + (((u.b[0]?).getD 0).toNat : Int) := wrap64 (by omega)
  have h33 := cut1n g (off + 99) ((u.b[0]?).getD 0).toNat (by omega)
  have HB2 := Lib.hid (((Below.refl w.heap.size w).alloc (Nat.le_refl _) (.cells ((mz.cells.set 0 (.int .i64 (slt u 3).v)).set 1 (.string (st ((u.b.drop 1).take ((u.b[0]?).getD 0).toNat)))).toArray 38)).alloc (by simp) (.cells (kl (slt u 3)).toArray 33))
  have HR2 := Lib.hid (show Blk ((w.alloc (.cells ((mz.cells.set 0 (.int .i64 (slt u 3).v)).set 1 (.string (st ((u.b.drop 1).take ((u.b[0]?).getD 0).toNat)))).toArray 38)).alloc (.cells (kl (slt u 3)).toArray 33)) w.heap.size 38 ({ ({ mz with c := (slt u 3).v } : Mg) with d := (u.b.drop 1).take ((u.b[0]?).getD 0).toNat } : Mg).cells.toArray from (Blk.new w 38 ((mz.cells.set 0 (.int .i64 (slt u 3).v)).set 1 (.string (st ((u.b.drop 1).take ((u.b[0]?).getD 0).toNat)))).toArray).alloc (.cells (kl (slt u 3)).toArray 33))
  have HD2 := Lib.hid ((h.alloc (.cells ((mz.cells.set 0 (.int .i64 (slt u 3).v)).set 1 (.string (st ((u.b.drop 1).take ((u.b[0]?).getD 0).toNat)))).toArray 38)).alloc (.cells (kl (slt u 3)).toArray 33))
  have HS2 := Lib.hid ((hs.alloc (.cells ((mz.cells.set 0 (.int .i64 (slt u 3).v)).set 1 (.string (st ((u.b.drop 1).take ((u.b[0]?).getD 0).toNat)))).toArray 38)).alloc (.cells (kl (slt u 3)).toArray 33))
  have HI : Hid (Jtw w ((w.alloc (.cells ((mz.cells.set 0 (.int .i64 (slt u 3).v)).set 1 (.string (st ((u.b.drop 1).take ((u.b[0]?).getD 0).toNat)))).toArray 38)).alloc (.cells (kl (slt u 3)).toArray 33)) base q A cap ps os g off t X Y x u 0) := Lib.hid ⟨HB2.out, HS2.out, hT.below HB2.out, HD2.out, by omega, by
    have e : tolC os u 0 (by omega) = ⟨codK (slt u 3), datB u.b, [zk, zk, zk], rfl⟩ := rfl
    rw [e, hck, hdb]
    exact HR2.out⟩
  clear hs hT hn hk hd hck hdb hbe hb0 h HB1 HR1 HD1 HS1 HB2 HR2 HD2 HS2
  go_enter Tryd.func54, Tryd.ntmps54
  go_wp2_with (first
    | (show wpList _ _ _ (Oper.mk (some 11) (.load _ _) _ _ _ _ :: _) _ _; refine wpList_yields (S := fun w' => KeyAt w' g (off + 21) (slt u 3)) (y_kyJ (by rfl) (.tmp 10) (by rfl) g (off + 21) (by rfl) (slt u 3) (fun _ h => h)) HK.out ?_)
    | (show wpList _ _ _ (Oper.mk none (.store _ (.tmp 3) (.tmp 11)) _ _ _ _ :: _) _ _; refine wpList_store_new (l := kl (slt u 3)) (l0 := kl zk) (ty := 33) rfl (.tmp 3) (.tmp 11) (by rfl) (w.heap.size + 1) (by simp) (by rfl) (by rfl) size30 rfl (kl_one _) ?_)
    | (show wpList _ _ _ (Oper.mk (some 34) (.convert _ _ _) _ _ _ _ :: _) _ _; refine wpList_yields (S := fun w' => Rd w' (some ⟨g, off + 100, none⟩) ((u.b.drop 1).take ((u.b[0]?).getD 0).toNat)) (y_cstrJ (by rfl) (.tmp 33) (by rfl) (some ⟨g, off + 100, none⟩) ((u.b[0]?).getD 0).toNat 63 ((u.b.drop 1).take ((u.b[0]?).getD 0).toNat) (by rfl) HL.out (fun _ h => h)) HRD.out ?_))
  go_loopw [5, 36] (fun _ k wr => ∃ i : Nat, i ≤ 3 ∧ k = .int .i64 i ∧ Jtw w wr base q A cap ps os g off t X Y x u i) (fun _ k _ => 4 - (intOf k).toNat)
  case atStart => exact ⟨0, by omega, rfl, by first | exact HI.out | (have := HI.out; rw [List.drop_one] at this; exact this)⟩
  case round =>
    obtain ⟨i, hi, rfl, hc⟩ := hrel
    clear HI
    have HI := Lib.hid hc
    obtain ⟨hi', hmb⟩ := hc.res
    clear hc
    by_cases hlt : i < 3
    · have d0 : decide ((i : Int) < 3) = true := decide_eq_true (by omega)
      have d1 : (i : Int) < 3 := by omega
      have HLT := Lib.hid hlt
      obtain ⟨mq, hq⟩ : ∃ mq, tolC os u i hi' = mq := ⟨_, rfl⟩
      have HML := Lib.hid (show (mq.k.set i (prepd os (slt u (12 + i)))).length = 3 by rw [List.length_set]; exact mq.hk)
      have HSU : Hid (∃ h, mq.ksAs (mq.k.set i (prepd os (slt u (12 + i)))) HML.out = tolC os u (i + 1) h) := Lib.hid ⟨hlt, by subst hq; exact tolC_succ os u i hlt⟩
      rw [hq] at hmb
      have HR := Lib.hid hmb
      have HSE := Lib.hid (mg_key mq i hlt (prepd os (slt u (12 + i))))
      have HFT := Lib.hid (show 2 + i * 6 + (kl (prepd os (slt u (12 + i)))).length ≤ mq.cells.length by rw [kl_len, mq.len]; omega)
      have HJ := Lib.hid (show 12 + i < 16 by omega)
      have d16 : ((12 + i : Nat) : Int) < 16 := by omega
      have hw12 : IntKind.i64.wrap (12 + (i : Int)) = ((12 + i : Nat) : Int) := by rw [wrap64 (by omega)]; omega
      generalize 12 + i = j at *
      clear hlt hq hmb
      go_wp2_with fail
      refine wp_region_only (S := fun w' => w'.cell? ⟨g, off + 164, none⟩ = some (.pointer (some ⟨q, 0, none⟩)) ∧ KeyAt w' g (off + 3 + j * 6) (slt u j)) (by kernel_rfl) ⟨HI.out.nd.drew.at_.st, HI.out.nd.drew.slot HJ.out⟩ (fun hHeld => ?_)
      refine wpAnyH_take (i := 0) (v := ?v1) rfl (by kernel_rfl) (by kernel_rfl) (by kernel_rfl) (fun _ _ _ h => h) (Or.inl ⟨by rfl, ?hy1⟩) hHeld ?rest1
      case hy1 =>
        intro w' hSw
        try dsimp only at hSw
        go_simp
        first | done | with_reducible rfl
      try simp only [Act.put, zq1, zq3, zq4, zq5, zq6]
      refine wpAnyH_take (i := 1) (v := ?v2) rfl (by kernel_rfl) (by kernel_rfl) (by kernel_rfl) (fun _ _ _ h => h) (Or.inl ⟨by rfl, ?hy2⟩) hHeld ?rest2
      case hy2 =>
        intro w' hSw
        try dsimp only at hSw
        go_simp
        first | done | with_reducible rfl
      try simp only [Act.put, zq1, zq2, zq3, zq4, zq5, zq6]
      refine wpAnyH_take (i := 2) (v := ?v3) rfl (by kernel_rfl) (by kernel_rfl) (by kernel_rfl) (fun _ _ _ h => h) (Or.inl ⟨by rfl, ?hy3⟩) hHeld ?rest3
      case hy3 =>
        intro w' hSw
        try dsimp only at hSw
        go_simp
        first | done | with_reducible rfl
      try simp only [Act.put, zq1, zq2, zq3, zq4, zq5, zq6]
      refine wpAnyH_take (i := 3) (v := ?v4) rfl (by kernel_rfl) (by kernel_rfl) (by kernel_rfl) (fun _ _ _ h => h) (Or.inl ⟨by rfl, ?hy4⟩) hHeld ?rest4
      case hy4 =>
        intro w' hSw
        try dsimp only at hSw
        go_simp
        first | done | with_reducible rfl
      try simp only [Act.put, zq1, zq2, zq3, zq4, zq5, zq6]
      refine wpAnyH_take (i := 4) (v := ?v5) rfl (by kernel_rfl) (by kernel_rfl) (by kernel_rfl) (fun _ _ _ h => h) (Or.inl ⟨by rfl, ?hy5⟩) hHeld ?rest5
      case hy5 =>
        intro w' hSw
        try dsimp only at hSw
        go_simp
        first | done | with_reducible rfl
      try simp only [Act.put, zq1, zq2, zq3, zq4, zq5, zq6]
      refine wpAnyH_take (i := 5) (v := ?v6) rfl (by kernel_rfl) (by kernel_rfl) (by kernel_rfl) (fun _ _ _ h => h) (Or.inl ⟨by rfl, ?hy6⟩) hHeld ?rest6
      case hy6 =>
        intro w' hSw
        try dsimp only at hSw
        go_simp
        first | done | with_reducible rfl
      try simp only [Act.put, zq1, zq2, zq3, zq4, zq5, zq6]
      refine wpAnyH_take (i := 6) (v := ?v7) rfl (by kernel_rfl) (by kernel_rfl) (by kernel_rfl) (fun _ _ _ h => h) (Or.inl ⟨by rfl, ?hy7⟩) hHeld ?rest7
      case hy7 =>
        intro w' hSw
        try dsimp only at hSw
        go_simp
        first | done | with_reducible rfl
      try simp only [Act.put, zq1, zq2, zq3, zq4, zq5, zq6]
      refine wpAnyH_take (i := 7) (v := ?v8) rfl (by kernel_rfl) (by kernel_rfl) (by kernel_rfl) (fun _ _ _ h => h) (Or.inl ⟨by rfl, ?hy8⟩) hHeld ?rest8
      case hy8 =>
        intro w' hSw
        try dsimp only at hSw
        go_simp
        first | done | with_reducible rfl
      try simp only [Act.put, zq1, zq2, zq3, zq4, zq5, zq6]
      refine wpAnyH_take (i := 8) (v := ?v9) rfl (by kernel_rfl) (by kernel_rfl) (by kernel_rfl) (fun _ _ _ h => h) (Or.inl ⟨by rfl, ?hy9⟩) hHeld ?rest9
      case hy9 =>
        intro w' hSw
        try dsimp only at hSw
        go_simp
        first | done | with_reducible rfl
      try simp only [Act.put, zq1, zq2, zq3, zq4, zq5, zq6]
      refine wpAnyH_take (i := 9) (v := ?v10) rfl (by kernel_rfl) (by kernel_rfl) (by kernel_rfl) (fun _ _ _ h => h) (Or.inl ⟨by rfl, ?hy10⟩) hHeld ?rest10
      case hy10 =>
        intro w' hSw
        try dsimp only at hSw
        go_simp
        first | done | with_reducible rfl
      try simp only [Act.put, zq1, zq2, zq3, zq4, zq5, zq6]
      refine wpAnyH_take (i := 10) (v := ?v11) rfl (by kernel_rfl) (by kernel_rfl) (by kernel_rfl) (fun _ _ _ h => h) (Or.inl ⟨by rfl, ?hy11⟩) hHeld ?rest11
      case hy11 =>
        intro w' hSw
        try dsimp only at hSw
        go_simp
        first | done | with_reducible rfl
      try simp only [Act.put, zq1, zq2, zq3, zq4, zq5, zq6]
      refine wpAnyH_take (i := 11) (v := ?v12) rfl (by kernel_rfl) (by kernel_rfl) (by kernel_rfl) (fun _ _ _ h => h) (Or.inl ⟨by rfl, ?hy12⟩) hHeld ?rest12
      case hy12 =>
        intro w' hSw
        try dsimp only at hSw
        go_simp
        first | done | with_reducible rfl
      try simp only [Act.put, zq1, zq2, zq3, zq4, zq5, zq6]
      refine wpAnyH_take (i := 12) rfl (by kernel_rfl) (by kernel_rfl) (by kernel_rfl) (fun _ _ _ h => h) (y_kyJ (by rfl) (.tmp 50) (by rfl) g (off + 3 + j * 6) (by rfl) (slt u j) (fun _ h => h.2)) hHeld ?_
      try simp only [Act.put, zq1, zq2, zq3, zq4, zq5, zq6]
      refine wpAnyH_take (i := 14) (v := ?v13) rfl (by kernel_rfl) (by kernel_rfl) (by kernel_rfl) (fun _ _ _ h => h) (Or.inl ⟨by rfl, ?hy13⟩) hHeld ?rest13
      case hy13 =>
        intro w' hSw
        try dsimp only at hSw
        go_simp
        first | done | with_reducible rfl
      try simp only [Act.put, zq1, zq2, zq3, zq4, zq5, zq6]
      refine wpAnyH_ready (rs := [13]) (by kernel_rfl) (by simp) ?_
      refine AllReadyH.cons (by rfl) (fun K hK => ?_) AllReadyH.nil
      go_simp
      refine (prep_at HI.out.st.drew HN.out HI.out.tab.drew (slt u j)).mono ?_
      rintro e y1 ⟨rfl, b1⟩
      have HB1 := Lib.hid ((below_drew HI.out.bel).trans (b1.mono HI.out.bel.size))
      have HS1 := Lib.hid (HI.out.st.drew.below b1)
      have HD1 := Lib.hid (HI.out.nd.drew.below b1)
      have HR1 := Lib.hid (HR.out.drew.keep b1)
      clear b1 hHeld
      go_wp2_with fail
      refine hK.out _ _ ⟨HD1.out.at_.st, HD1.out.slot HJ.out⟩ (fun hHeld => ?_)
      clear hK K
      try simp only [Act.put, zq1, zq2, zq3, zq4, zq5, zq6]
      refine wpAnyH_take (i := 15) (v := ?v14) rfl (by kernel_rfl) (by kernel_rfl) (by kernel_rfl) (fun _ _ _ h => h) (Or.inl ⟨by rfl, ?hy14⟩) hHeld ?rest14
      case hy14 =>
        intro w' hSw
        try dsimp only at hSw
        go_simp
        first | done | with_reducible rfl
      try simp only [Act.put, zq1, zq2, zq3, zq4, zq5, zq6]
      refine wpAnyH_ready (rs := [16]) (by kernel_rfl) (by simp) ?_
      refine AllReadyH.cons (by rfl) (fun K hK => ?_) AllReadyH.nil
      refine step_store_in HR1.out rfl (.tmp 54) (.tmp 52) (ty := 33) (l := kl (prepd os (slt u j))) (off := 2 + i * 6) (by rfl) (by rfl) (by rfl) size30 HFT.out (kl_one _) HSE.out ?_
      have HB2 := Lib.hid (below_setRow HB1.out (Nat.le_refl w.heap.size) (mq.ksAs (mq.k.set i (prepd os (slt u j))) HML.out).cells.toArray)
      have HS2 := Lib.hid (HS1.out.keep (w' := y1.setRow w.heap.size (mq.ksAs (mq.k.set i (prepd os (slt u j))) HML.out).cells.toArray) fun k hk => setRow_other _ _ _ _ (fun e => HS1.out.blk_ne HR1.out (by decide) HNP.out (e ▸ hk)))
      have HD2 := Lib.hid (HD1.out.keep (w' := y1.setRow w.heap.size (mq.ksAs (mq.k.set i (prepd os (slt u j))) HML.out).cells.toArray) (setRow_other _ _ _ _ (by have := HGL.out; omega)))
      have HR2 := Lib.hid (HR1.out.setRow (mq.ksAs (mq.k.set i (prepd os (slt u j))) HML.out).cells.toArray)
      refine hK.out _ _ ⟨HD2.out.at_.st, HD2.out.slot HJ.out⟩ (fun hHeld => ?_)
      clear hK K
      try simp only [Act.put, zq1, zq2, zq3]
      refine wpAnyH_done (by kernel_rfl) ?_ _
      refine OnlyN.normal ?_
      clear hHeld
      go_wp2_with fail
      go_roundw
      case rel =>
        obtain ⟨_, hsu⟩ := HSU.out
        exact ⟨i + 1, by have := HLT.out; omega, by go_num, HB2.out, HS2.out, HTW.out.below HB2.out, HD2.out, HLT.out, by rw [← hsu]; exact HR2.out⟩
      case measure => simp [intOf]; omega
    · have hi3 : i = 3 := by omega
      subst hi3
      have d0 : decide ((3 : Int) < 3) = false := rfl
      rw [tolC_all] at hmb
      have HR := Lib.hid hmb
      have hcl := (tolM os u).len
      clear hmb
      go_wp2_with (first
        | (show wpList _ _ _ (Oper.mk (some 56) (.load _ _) _ _ _ _ :: _) _ _; refine wpList_yields (S := fun w' => MgAt w' w.heap.size 0 (tolM os u)) (y_mg (by rfl) (.tmp 2) (by rfl) w.heap.size 0 (by rfl) (tolM os u) (fun _ h => h)) HR.out.mg ?_)
        | (show wpList _ _ _ (Oper.mk none (.store _ (.tmp 2) (.tmp 56)) _ _ _ _ :: _) _ _; refine wpList_store_big (l0 := (tolM os u).cells) (l := (tolM os u).cells) HR.out rfl (.tmp 2) (.tmp 56) (ty := 38) rfl (by rfl) (by rfl) (by rw [Mg.len]; exact sizeM) rfl (Mg.one _) ?_))
      exact bodyPost_ret (res_1 rfl _ _ w.heap.size _ rfl (load_mg (HR.out.setRow _))) rfl ⟨rfl, below_setRow HI.out.bel (Nat.le_refl _) _⟩
set_option maxRecDepth 100000 in
set_option maxHeartbeats 4000000 in
theorem told_b (h : NdB w g off t X Y (some ⟨q, 0, none⟩) x u) (hs : StAt w base q A cap ps os) (hn : 0 < os.length) (hT : Tab w) (hk : (slt u 3).k = 1) (hd : ¬ ((u.b[0]?).getD 0).toNat ≤ 32) : Calls Tryd.prog 54 #[.pointer (some ⟨g, off, none⟩)] w fun e w' => e = .returned (tolM os u).val ∧ Below w.heap.size w w' := by
  have hz := zM
  have hzl := mz.len
  have HGL := Lib.hid h.lt
  have HNP := Lib.hid (show w.heap.size ≠ q by have := (hs.lt q (.inl rfl)).2; omega)
  have HN := Lib.hid hn
  have HTW := Lib.hid hT
  have HK := Lib.hid (show KeyAt (w.alloc (.cells mz.cells.toArray 38)) g (off + 21) (slt u 3) from (h.alloc (.cells mz.cells.toArray 38)).slot (i := 3) (by decide))
  have HK1 := Lib.hid (Blk.new_of (w.alloc (.cells mz.cells.toArray 38)) 33 (kl (slt u 3)).toArray (g := w.heap.size + 1) (by simp))
  have hkl := kl_len (slt u 3)
  obtain ⟨k0, k1, k2, k3, k4, k5⟩ := HK1.out.six
  have dk : ((slt u 3).k == 1) = true := by simpa using hk
  have hck : codK (slt u 3) = (slt u 3).v := if_pos hk
  have HB1 := Lib.hid (((Below.refl w.heap.size w).alloc (Nat.le_refl _) (.cells (mz.cells.set 0 (.int .i64 (slt u 3).v)).toArray 38)).alloc (by simp) (.cells (kl (slt u 3)).toArray 33))
  have HR1 := Lib.hid (show Blk ((w.alloc (.cells (mz.cells.set 0 (.int .i64 (slt u 3).v)).toArray 38)).alloc (.cells (kl (slt u 3)).toArray 33)) w.heap.size 38 ({ mz with c := (slt u 3).v } : Mg).cells.toArray from (Blk.new w 38 (mz.cells.set 0 (.int .i64 (slt u 3).v)).toArray).alloc (.cells (kl (slt u 3)).toArray 33))
  have HD1 := Lib.hid ((h.alloc (.cells (mz.cells.set 0 (.int .i64 (slt u 3).v)).toArray 38)).alloc (.cells (kl (slt u 3)).toArray 33))
  have HS1 := Lib.hid ((hs.alloc (.cells (mz.cells.set 0 (.int .i64 (slt u 3).v)).toArray 38)).alloc (.cells (kl (slt u 3)).toArray 33))
  have hb0 : 0 < u.b.length := by rw [u.hb]; decide
  have hbe : (u.b[0]?).getD 0 = u.b[0] := by rw [List.getElem?_eq_getElem hb0]; rfl
  have b0 : ((w.alloc (.cells (mz.cells.set 0 (.int .i64 (slt u 3).v)).toArray 38)).alloc (.cells (kl (slt u 3)).toArray 33)).cell? ⟨g, off + 99, none⟩ = some (.int .u8 (((u.b[0]?).getD 0).toNat : Int)) := by
    rw [hbe]
    exact byte_of_range HD1.out.ob.bytes 0 hb0
  have HRD := Lib.hid (show Rd ((w.alloc (.cells (mz.cells.set 0 (.int .i64 (slt u 3).v)).toArray 38)).alloc (.cells (kl (slt u 3)).toArray 33)) (some ⟨g, off + 100, none⟩) ((u.b.drop 1).take ((u.b[0]?).getD 0).toNat) from fun j hj => by
    have hj' : j < 63 := by rw [List.length_take, List.length_drop, u.hb] at hj; omega
    refine ⟨g, off + 100, rfl, ?_⟩
    have := byte_of_range HD1.out.ob.bytes (1 + j) (by rw [u.hb]; omega)
    rw [show off + 100 + j = off + 99 + (1 + j) by omega, this]
    simp [Nat.add_comm])
  have hwn : IntKind.i64.wrap (((u.b[0]?).getD 0).toNat : Int) = (((u.b[0]?).getD 0).toNat : Int) := wrap64 (by have := ((u.b[0]?).getD 0).toNat_lt; omega)
  have hdb : datB u.b = [] := if_neg hd
  have d32 : decide ((((u.b[0]?).getD 0).toNat : Int) ≤ 32) = false := decide_eq_false (by omega)
  have HB2 := Lib.hid (((Below.refl w.heap.size w).alloc (Nat.le_refl _) (.cells (mz.cells.set 0 (.int .i64 (slt u 3).v)).toArray 38)).alloc (by simp) (.cells (kl (slt u 3)).toArray 33))
  have HR2 := Lib.hid (show Blk ((w.alloc (.cells (mz.cells.set 0 (.int .i64 (slt u 3).v)).toArray 38)).alloc (.cells (kl (slt u 3)).toArray 33)) w.heap.size 38 ({ mz with c := (slt u 3).v } : Mg).cells.toArray from (Blk.new w 38 (mz.cells.set 0 (.int .i64 (slt u 3).v)).toArray).alloc (.cells (kl (slt u 3)).toArray 33))
  have HD2 := Lib.hid ((h.alloc (.cells (mz.cells.set 0 (.int .i64 (slt u 3).v)).toArray 38)).alloc (.cells (kl (slt u 3)).toArray 33))
  have HS2 := Lib.hid ((hs.alloc (.cells (mz.cells.set 0 (.int .i64 (slt u 3).v)).toArray 38)).alloc (.cells (kl (slt u 3)).toArray 33))
  have HI : Hid (Jtw w ((w.alloc (.cells (mz.cells.set 0 (.int .i64 (slt u 3).v)).toArray 38)).alloc (.cells (kl (slt u 3)).toArray 33)) base q A cap ps os g off t X Y x u 0) := Lib.hid ⟨HB2.out, HS2.out, hT.below HB2.out, HD2.out, by omega, by
    have e : tolC os u 0 (by omega) = ⟨codK (slt u 3), datB u.b, [zk, zk, zk], rfl⟩ := rfl
    rw [e, hck, hdb]
    exact HR2.out⟩
  clear hs hT hn hk hd hck hdb hbe hb0 h HB1 HR1 HD1 HS1 HB2 HR2 HD2 HS2
  go_enter Tryd.func54, Tryd.ntmps54
  go_wp2_with (first
    | (show wpList _ _ _ (Oper.mk (some 11) (.load _ _) _ _ _ _ :: _) _ _; refine wpList_yields (S := fun w' => KeyAt w' g (off + 21) (slt u 3)) (y_kyJ (by rfl) (.tmp 10) (by rfl) g (off + 21) (by rfl) (slt u 3) (fun _ h => h)) HK.out ?_)
    | (show wpList _ _ _ (Oper.mk none (.store _ (.tmp 3) (.tmp 11)) _ _ _ _ :: _) _ _; refine wpList_store_new (l := kl (slt u 3)) (l0 := kl zk) (ty := 33) rfl (.tmp 3) (.tmp 11) (by rfl) (w.heap.size + 1) (by simp) (by rfl) (by rfl) size30 rfl (kl_one _) ?_))
  go_loopw [5, 36] (fun _ k wr => ∃ i : Nat, i ≤ 3 ∧ k = .int .i64 i ∧ Jtw w wr base q A cap ps os g off t X Y x u i) (fun _ k _ => 4 - (intOf k).toNat)
  case atStart => exact ⟨0, by omega, rfl, by first | exact HI.out | (have := HI.out; rw [List.drop_one] at this; exact this)⟩
  case round =>
    obtain ⟨i, hi, rfl, hc⟩ := hrel
    clear HI
    have HI := Lib.hid hc
    obtain ⟨hi', hmb⟩ := hc.res
    clear hc
    by_cases hlt : i < 3
    · have d0 : decide ((i : Int) < 3) = true := decide_eq_true (by omega)
      have d1 : (i : Int) < 3 := by omega
      have HLT := Lib.hid hlt
      obtain ⟨mq, hq⟩ : ∃ mq, tolC os u i hi' = mq := ⟨_, rfl⟩
      have HML := Lib.hid (show (mq.k.set i (prepd os (slt u (12 + i)))).length = 3 by rw [List.length_set]; exact mq.hk)
      have HSU : Hid (∃ h, mq.ksAs (mq.k.set i (prepd os (slt u (12 + i)))) HML.out = tolC os u (i + 1) h) := Lib.hid ⟨hlt, by subst hq; exact tolC_succ os u i hlt⟩
      rw [hq] at hmb
      have HR := Lib.hid hmb
      have HSE := Lib.hid (mg_key mq i hlt (prepd os (slt u (12 + i))))
      have HFT := Lib.hid (show 2 + i * 6 + (kl (prepd os (slt u (12 + i)))).length ≤ mq.cells.length by rw [kl_len, mq.len]; omega)
      have HJ := Lib.hid (show 12 + i < 16 by omega)
      have d16 : ((12 + i : Nat) : Int) < 16 := by omega
      have hw12 : IntKind.i64.wrap (12 + (i : Int)) = ((12 + i : Nat) : Int) := by rw [wrap64 (by omega)]; omega
      generalize 12 + i = j at *
      clear hlt hq hmb
      go_wp2_with fail
      refine wp_region_only (S := fun w' => w'.cell? ⟨g, off + 164, none⟩ = some (.pointer (some ⟨q, 0, none⟩)) ∧ KeyAt w' g (off + 3 + j * 6) (slt u j)) (by kernel_rfl) ⟨HI.out.nd.drew.at_.st, HI.out.nd.drew.slot HJ.out⟩ (fun hHeld => ?_)
      refine wpAnyH_take (i := 0) (v := ?v15) rfl (by kernel_rfl) (by kernel_rfl) (by kernel_rfl) (fun _ _ _ h => h) (Or.inl ⟨by rfl, ?hy15⟩) hHeld ?rest15
      case hy15 =>
        intro w' hSw
        try dsimp only at hSw
        go_simp
        first | done | with_reducible rfl
      try simp only [Act.put, zq1, zq3, zq4, zq5, zq6]
      refine wpAnyH_take (i := 1) (v := ?v16) rfl (by kernel_rfl) (by kernel_rfl) (by kernel_rfl) (fun _ _ _ h => h) (Or.inl ⟨by rfl, ?hy16⟩) hHeld ?rest16
      case hy16 =>
        intro w' hSw
        try dsimp only at hSw
        go_simp
        first | done | with_reducible rfl
      try simp only [Act.put, zq1, zq2, zq3, zq4, zq5, zq6]
      refine wpAnyH_take (i := 2) (v := ?v17) rfl (by kernel_rfl) (by kernel_rfl) (by kernel_rfl) (fun _ _ _ h => h) (Or.inl ⟨by rfl, ?hy17⟩) hHeld ?rest17
      case hy17 =>
        intro w' hSw
        try dsimp only at hSw
        go_simp
        first | done | with_reducible rfl
      try simp only [Act.put, zq1, zq2, zq3, zq4, zq5, zq6]
      refine wpAnyH_take (i := 3) (v := ?v18) rfl (by kernel_rfl) (by kernel_rfl) (by kernel_rfl) (fun _ _ _ h => h) (Or.inl ⟨by rfl, ?hy18⟩) hHeld ?rest18
      case hy18 =>
        intro w' hSw
        try dsimp only at hSw
        go_simp
        first | done | with_reducible rfl
      try simp only [Act.put, zq1, zq2, zq3, zq4, zq5, zq6]
      refine wpAnyH_take (i := 4) (v := ?v19) rfl (by kernel_rfl) (by kernel_rfl) (by kernel_rfl) (fun _ _ _ h => h) (Or.inl ⟨by rfl, ?hy19⟩) hHeld ?rest19
      case hy19 =>
        intro w' hSw
        try dsimp only at hSw
        go_simp
        first | done | with_reducible rfl
      try simp only [Act.put, zq1, zq2, zq3, zq4, zq5, zq6]
      refine wpAnyH_take (i := 5) (v := ?v20) rfl (by kernel_rfl) (by kernel_rfl) (by kernel_rfl) (fun _ _ _ h => h) (Or.inl ⟨by rfl, ?hy20⟩) hHeld ?rest20
      case hy20 =>
        intro w' hSw
        try dsimp only at hSw
        go_simp
        first | done | with_reducible rfl
      try simp only [Act.put, zq1, zq2, zq3, zq4, zq5, zq6]
      refine wpAnyH_take (i := 6) (v := ?v21) rfl (by kernel_rfl) (by kernel_rfl) (by kernel_rfl) (fun _ _ _ h => h) (Or.inl ⟨by rfl, ?hy21⟩) hHeld ?rest21
      case hy21 =>
        intro w' hSw
        try dsimp only at hSw
        go_simp
        first | done | with_reducible rfl
      try simp only [Act.put, zq1, zq2, zq3, zq4, zq5, zq6]
      refine wpAnyH_take (i := 7) (v := ?v22) rfl (by kernel_rfl) (by kernel_rfl) (by kernel_rfl) (fun _ _ _ h => h) (Or.inl ⟨by rfl, ?hy22⟩) hHeld ?rest22
      case hy22 =>
        intro w' hSw
        try dsimp only at hSw
        go_simp
        first | done | with_reducible rfl
      try simp only [Act.put, zq1, zq2, zq3, zq4, zq5, zq6]
      refine wpAnyH_take (i := 8) (v := ?v23) rfl (by kernel_rfl) (by kernel_rfl) (by kernel_rfl) (fun _ _ _ h => h) (Or.inl ⟨by rfl, ?hy23⟩) hHeld ?rest23
      case hy23 =>
        intro w' hSw
        try dsimp only at hSw
        go_simp
        first | done | with_reducible rfl
      try simp only [Act.put, zq1, zq2, zq3, zq4, zq5, zq6]
      refine wpAnyH_take (i := 9) (v := ?v24) rfl (by kernel_rfl) (by kernel_rfl) (by kernel_rfl) (fun _ _ _ h => h) (Or.inl ⟨by rfl, ?hy24⟩) hHeld ?rest24
      case hy24 =>
        intro w' hSw
        try dsimp only at hSw
        go_simp
        first | done | with_reducible rfl
      try simp only [Act.put, zq1, zq2, zq3, zq4, zq5, zq6]
      refine wpAnyH_take (i := 10) (v := ?v25) rfl (by kernel_rfl) (by kernel_rfl) (by kernel_rfl) (fun _ _ _ h => h) (Or.inl ⟨by rfl, ?hy25⟩) hHeld ?rest25
      case hy25 =>
        intro w' hSw
        try dsimp only at hSw
        go_simp
        first | done | with_reducible rfl
      try simp only [Act.put, zq1, zq2, zq3, zq4, zq5, zq6]
      refine wpAnyH_take (i := 11) (v := ?v26) rfl (by kernel_rfl) (by kernel_rfl) (by kernel_rfl) (fun _ _ _ h => h) (Or.inl ⟨by rfl, ?hy26⟩) hHeld ?rest26
      case hy26 =>
        intro w' hSw
        try dsimp only at hSw
        go_simp
        first | done | with_reducible rfl
      try simp only [Act.put, zq1, zq2, zq3, zq4, zq5, zq6]
      refine wpAnyH_take (i := 12) rfl (by kernel_rfl) (by kernel_rfl) (by kernel_rfl) (fun _ _ _ h => h) (y_kyJ (by rfl) (.tmp 50) (by rfl) g (off + 3 + j * 6) (by rfl) (slt u j) (fun _ h => h.2)) hHeld ?_
      try simp only [Act.put, zq1, zq2, zq3, zq4, zq5, zq6]
      refine wpAnyH_take (i := 14) (v := ?v27) rfl (by kernel_rfl) (by kernel_rfl) (by kernel_rfl) (fun _ _ _ h => h) (Or.inl ⟨by rfl, ?hy27⟩) hHeld ?rest27
      case hy27 =>
        intro w' hSw
        try dsimp only at hSw
        go_simp
        first | done | with_reducible rfl
      try simp only [Act.put, zq1, zq2, zq3, zq4, zq5, zq6]
      refine wpAnyH_ready (rs := [13]) (by kernel_rfl) (by simp) ?_
      refine AllReadyH.cons (by rfl) (fun K hK => ?_) AllReadyH.nil
      go_simp
      refine (prep_at HI.out.st.drew HN.out HI.out.tab.drew (slt u j)).mono ?_
      rintro e y1 ⟨rfl, b1⟩
      have HB1 := Lib.hid ((below_drew HI.out.bel).trans (b1.mono HI.out.bel.size))
      have HS1 := Lib.hid (HI.out.st.drew.below b1)
      have HD1 := Lib.hid (HI.out.nd.drew.below b1)
      have HR1 := Lib.hid (HR.out.drew.keep b1)
      clear b1 hHeld
      go_wp2_with fail
      refine hK.out _ _ ⟨HD1.out.at_.st, HD1.out.slot HJ.out⟩ (fun hHeld => ?_)
      clear hK K
      try simp only [Act.put, zq1, zq2, zq3, zq4, zq5, zq6]
      refine wpAnyH_take (i := 15) (v := ?v28) rfl (by kernel_rfl) (by kernel_rfl) (by kernel_rfl) (fun _ _ _ h => h) (Or.inl ⟨by rfl, ?hy28⟩) hHeld ?rest28
      case hy28 =>
        intro w' hSw
        try dsimp only at hSw
        go_simp
        first | done | with_reducible rfl
      try simp only [Act.put, zq1, zq2, zq3, zq4, zq5, zq6]
      refine wpAnyH_ready (rs := [16]) (by kernel_rfl) (by simp) ?_
      refine AllReadyH.cons (by rfl) (fun K hK => ?_) AllReadyH.nil
      refine step_store_in HR1.out rfl (.tmp 54) (.tmp 52) (ty := 33) (l := kl (prepd os (slt u j))) (off := 2 + i * 6) (by rfl) (by rfl) (by rfl) size30 HFT.out (kl_one _) HSE.out ?_
      have HB2 := Lib.hid (below_setRow HB1.out (Nat.le_refl w.heap.size) (mq.ksAs (mq.k.set i (prepd os (slt u j))) HML.out).cells.toArray)
      have HS2 := Lib.hid (HS1.out.keep (w' := y1.setRow w.heap.size (mq.ksAs (mq.k.set i (prepd os (slt u j))) HML.out).cells.toArray) fun k hk => setRow_other _ _ _ _ (fun e => HS1.out.blk_ne HR1.out (by decide) HNP.out (e ▸ hk)))
      have HD2 := Lib.hid (HD1.out.keep (w' := y1.setRow w.heap.size (mq.ksAs (mq.k.set i (prepd os (slt u j))) HML.out).cells.toArray) (setRow_other _ _ _ _ (by have := HGL.out; omega)))
      have HR2 := Lib.hid (HR1.out.setRow (mq.ksAs (mq.k.set i (prepd os (slt u j))) HML.out).cells.toArray)
      refine hK.out _ _ ⟨HD2.out.at_.st, HD2.out.slot HJ.out⟩ (fun hHeld => ?_)
      clear hK K
      try simp only [Act.put, zq1, zq2, zq3]
      refine wpAnyH_done (by kernel_rfl) ?_ _
      refine OnlyN.normal ?_
      clear hHeld
      go_wp2_with fail
      go_roundw
      case rel =>
        obtain ⟨_, hsu⟩ := HSU.out
        exact ⟨i + 1, by have := HLT.out; omega, by go_num, HB2.out, HS2.out, HTW.out.below HB2.out, HD2.out, HLT.out, by rw [← hsu]; exact HR2.out⟩
      case measure => simp [intOf]; omega
    · have hi3 : i = 3 := by omega
      subst hi3
      have d0 : decide ((3 : Int) < 3) = false := rfl
      rw [tolC_all] at hmb
      have HR := Lib.hid hmb
      have hcl := (tolM os u).len
      clear hmb
      go_wp2_with (first
        | (show wpList _ _ _ (Oper.mk (some 56) (.load _ _) _ _ _ _ :: _) _ _; refine wpList_yields (S := fun w' => MgAt w' w.heap.size 0 (tolM os u)) (y_mg (by rfl) (.tmp 2) (by rfl) w.heap.size 0 (by rfl) (tolM os u) (fun _ h => h)) HR.out.mg ?_)
        | (show wpList _ _ _ (Oper.mk none (.store _ (.tmp 2) (.tmp 56)) _ _ _ _ :: _) _ _; refine wpList_store_big (l0 := (tolM os u).cells) (l := (tolM os u).cells) HR.out rfl (.tmp 2) (.tmp 56) (ty := 38) rfl (by rfl) (by rfl) (by rw [Mg.len]; exact sizeM) rfl (Mg.one _) ?_))
      exact bodyPost_ret (res_1 rfl _ _ w.heap.size _ rfl (load_mg (HR.out.setRow _))) rfl ⟨rfl, below_setRow HI.out.bel (Nat.le_refl _) _⟩
set_option maxRecDepth 100000 in
set_option maxHeartbeats 4000000 in
theorem told_c (h : NdB w g off t X Y (some ⟨q, 0, none⟩) x u) (hs : StAt w base q A cap ps os) (hn : 0 < os.length) (hT : Tab w) (hk : (slt u 3).k ≠ 1) (hd : ((u.b[0]?).getD 0).toNat ≤ 32) : Calls Tryd.prog 54 #[.pointer (some ⟨g, off, none⟩)] w fun e w' => e = .returned (tolM os u).val ∧ Below w.heap.size w w' := by
  have hz := zM
  have hzl := mz.len
  have HGL := Lib.hid h.lt
  have HNP := Lib.hid (show w.heap.size ≠ q by have := (hs.lt q (.inl rfl)).2; omega)
  have HN := Lib.hid hn
  have HTW := Lib.hid hT
  have HK := Lib.hid (show KeyAt (w.alloc (.cells mz.cells.toArray 38)) g (off + 21) (slt u 3) from (h.alloc (.cells mz.cells.toArray 38)).slot (i := 3) (by decide))
  have HK1 := Lib.hid (Blk.new_of (w.alloc (.cells mz.cells.toArray 38)) 33 (kl (slt u 3)).toArray (g := w.heap.size + 1) (by simp))
  have hkl := kl_len (slt u 3)
  obtain ⟨k0, k1, k2, k3, k4, k5⟩ := HK1.out.six
  have dk : ((slt u 3).k == 1) = false := by simpa using hk
  have hck : codK (slt u 3) = 0 := if_neg hk
  have HB1 := Lib.hid (((Below.refl w.heap.size w).alloc (Nat.le_refl _) (.cells mz.cells.toArray 38)).alloc (by simp) (.cells (kl (slt u 3)).toArray 33))
  have HR1 := Lib.hid (show Blk ((w.alloc (.cells mz.cells.toArray 38)).alloc (.cells (kl (slt u 3)).toArray 33)) w.heap.size 38 (mz : Mg).cells.toArray from (Blk.new w 38 mz.cells.toArray).alloc (.cells (kl (slt u 3)).toArray 33))
  have HD1 := Lib.hid ((h.alloc (.cells mz.cells.toArray 38)).alloc (.cells (kl (slt u 3)).toArray 33))
  have HS1 := Lib.hid ((hs.alloc (.cells mz.cells.toArray 38)).alloc (.cells (kl (slt u 3)).toArray 33))
  have hb0 : 0 < u.b.length := by rw [u.hb]; decide
  have hbe : (u.b[0]?).getD 0 = u.b[0] := by rw [List.getElem?_eq_getElem hb0]; rfl
  have b0 : ((w.alloc (.cells mz.cells.toArray 38)).alloc (.cells (kl (slt u 3)).toArray 33)).cell? ⟨g, off + 99, none⟩ = some (.int .u8 (((u.b[0]?).getD 0).toNat : Int)) := by
    rw [hbe]
    exact byte_of_range HD1.out.ob.bytes 0 hb0
  have HRD := Lib.hid (show Rd ((w.alloc (.cells mz.cells.toArray 38)).alloc (.cells (kl (slt u 3)).toArray 33)) (some ⟨g, off + 100, none⟩) ((u.b.drop 1).take ((u.b[0]?).getD 0).toNat) from fun j hj => by
    have hj' : j < 63 := by rw [List.length_take, List.length_drop, u.hb] at hj; omega
    refine ⟨g, off + 100, rfl, ?_⟩
    have := byte_of_range HD1.out.ob.bytes (1 + j) (by rw [u.hb]; omega)
    rw [show off + 100 + j = off + 99 + (1 + j) by omega, this]
    simp [Nat.add_comm])
  have hwn : IntKind.i64.wrap (((u.b[0]?).getD 0).toNat : Int) = (((u.b[0]?).getD 0).toNat : Int) := wrap64 (by have := ((u.b[0]?).getD 0).toNat_lt; omega)
  have hdb : datB u.b = (u.b.drop 1).take ((u.b[0]?).getD 0).toNat := if_pos hd
  have HL := Lib.hid (show ((u.b.drop 1).take ((u.b[0]?).getD 0).toNat).length = ((u.b[0]?).getD 0).toNat by rw [List.length_take, List.length_drop, u.hb]; omega)
  have d32 : decide ((((u.b[0]?).getD 0).toNat : Int) ≤ 32) = true := decide_eq_true (by omega)
  have hw1 : IntKind.i64.wrap (1 + (((u.b[0]?).getD 0).toNat : Int)) = 1 + (((u.b[0]?).getD 0).toNat : Int) := wrap64 (by omega)
  have h33 := cut1n g (off + 99) ((u.b[0]?).getD 0).toNat (by omega)
  have HB2 := Lib.hid (((Below.refl w.heap.size w).alloc (Nat.le_refl _) (.cells (mz.cells.set 1 (.string (st ((u.b.drop 1).take ((u.b[0]?).getD 0).toNat)))).toArray 38)).alloc (by simp) (.cells (kl (slt u 3)).toArray 33))
  have HR2 := Lib.hid (show Blk ((w.alloc (.cells (mz.cells.set 1 (.string (st ((u.b.drop 1).take ((u.b[0]?).getD 0).toNat)))).toArray 38)).alloc (.cells (kl (slt u 3)).toArray 33)) w.heap.size 38 ({ mz with d := (u.b.drop 1).take ((u.b[0]?).getD 0).toNat } : Mg).cells.toArray from (Blk.new w 38 (mz.cells.set 1 (.string (st ((u.b.drop 1).take ((u.b[0]?).getD 0).toNat)))).toArray).alloc (.cells (kl (slt u 3)).toArray 33))
  have HD2 := Lib.hid ((h.alloc (.cells (mz.cells.set 1 (.string (st ((u.b.drop 1).take ((u.b[0]?).getD 0).toNat)))).toArray 38)).alloc (.cells (kl (slt u 3)).toArray 33))
  have HS2 := Lib.hid ((hs.alloc (.cells (mz.cells.set 1 (.string (st ((u.b.drop 1).take ((u.b[0]?).getD 0).toNat)))).toArray 38)).alloc (.cells (kl (slt u 3)).toArray 33))
  have HI : Hid (Jtw w ((w.alloc (.cells (mz.cells.set 1 (.string (st ((u.b.drop 1).take ((u.b[0]?).getD 0).toNat)))).toArray 38)).alloc (.cells (kl (slt u 3)).toArray 33)) base q A cap ps os g off t X Y x u 0) := Lib.hid ⟨HB2.out, HS2.out, hT.below HB2.out, HD2.out, by omega, by
    have e : tolC os u 0 (by omega) = ⟨codK (slt u 3), datB u.b, [zk, zk, zk], rfl⟩ := rfl
    rw [e, hck, hdb]
    exact HR2.out⟩
  clear hs hT hn hk hd hck hdb hbe hb0 h HB1 HR1 HD1 HS1 HB2 HR2 HD2 HS2
  go_enter Tryd.func54, Tryd.ntmps54
  go_wp2_with (first
    | (show wpList _ _ _ (Oper.mk (some 11) (.load _ _) _ _ _ _ :: _) _ _; refine wpList_yields (S := fun w' => KeyAt w' g (off + 21) (slt u 3)) (y_kyJ (by rfl) (.tmp 10) (by rfl) g (off + 21) (by rfl) (slt u 3) (fun _ h => h)) HK.out ?_)
    | (show wpList _ _ _ (Oper.mk none (.store _ (.tmp 3) (.tmp 11)) _ _ _ _ :: _) _ _; refine wpList_store_new (l := kl (slt u 3)) (l0 := kl zk) (ty := 33) rfl (.tmp 3) (.tmp 11) (by rfl) (w.heap.size + 1) (by simp) (by rfl) (by rfl) size30 rfl (kl_one _) ?_)
    | (show wpList _ _ _ (Oper.mk (some 34) (.convert _ _ _) _ _ _ _ :: _) _ _; refine wpList_yields (S := fun w' => Rd w' (some ⟨g, off + 100, none⟩) ((u.b.drop 1).take ((u.b[0]?).getD 0).toNat)) (y_cstrJ (by rfl) (.tmp 33) (by rfl) (some ⟨g, off + 100, none⟩) ((u.b[0]?).getD 0).toNat 63 ((u.b.drop 1).take ((u.b[0]?).getD 0).toNat) (by rfl) HL.out (fun _ h => h)) HRD.out ?_))
  go_loopw [5, 36] (fun _ k wr => ∃ i : Nat, i ≤ 3 ∧ k = .int .i64 i ∧ Jtw w wr base q A cap ps os g off t X Y x u i) (fun _ k _ => 4 - (intOf k).toNat)
  case atStart => exact ⟨0, by omega, rfl, by first | exact HI.out | (have := HI.out; rw [List.drop_one] at this; exact this)⟩
  case round =>
    obtain ⟨i, hi, rfl, hc⟩ := hrel
    clear HI
    have HI := Lib.hid hc
    obtain ⟨hi', hmb⟩ := hc.res
    clear hc
    by_cases hlt : i < 3
    · have d0 : decide ((i : Int) < 3) = true := decide_eq_true (by omega)
      have d1 : (i : Int) < 3 := by omega
      have HLT := Lib.hid hlt
      obtain ⟨mq, hq⟩ : ∃ mq, tolC os u i hi' = mq := ⟨_, rfl⟩
      have HML := Lib.hid (show (mq.k.set i (prepd os (slt u (12 + i)))).length = 3 by rw [List.length_set]; exact mq.hk)
      have HSU : Hid (∃ h, mq.ksAs (mq.k.set i (prepd os (slt u (12 + i)))) HML.out = tolC os u (i + 1) h) := Lib.hid ⟨hlt, by subst hq; exact tolC_succ os u i hlt⟩
      rw [hq] at hmb
      have HR := Lib.hid hmb
      have HSE := Lib.hid (mg_key mq i hlt (prepd os (slt u (12 + i))))
      have HFT := Lib.hid (show 2 + i * 6 + (kl (prepd os (slt u (12 + i)))).length ≤ mq.cells.length by rw [kl_len, mq.len]; omega)
      have HJ := Lib.hid (show 12 + i < 16 by omega)
      have d16 : ((12 + i : Nat) : Int) < 16 := by omega
      have hw12 : IntKind.i64.wrap (12 + (i : Int)) = ((12 + i : Nat) : Int) := by rw [wrap64 (by omega)]; omega
      generalize 12 + i = j at *
      clear hlt hq hmb
      go_wp2_with fail
      refine wp_region_only (S := fun w' => w'.cell? ⟨g, off + 164, none⟩ = some (.pointer (some ⟨q, 0, none⟩)) ∧ KeyAt w' g (off + 3 + j * 6) (slt u j)) (by kernel_rfl) ⟨HI.out.nd.drew.at_.st, HI.out.nd.drew.slot HJ.out⟩ (fun hHeld => ?_)
      refine wpAnyH_take (i := 0) (v := ?v29) rfl (by kernel_rfl) (by kernel_rfl) (by kernel_rfl) (fun _ _ _ h => h) (Or.inl ⟨by rfl, ?hy29⟩) hHeld ?rest29
      case hy29 =>
        intro w' hSw
        try dsimp only at hSw
        go_simp
        first | done | with_reducible rfl
      try simp only [Act.put, zq1, zq3, zq4, zq5, zq6]
      refine wpAnyH_take (i := 1) (v := ?v30) rfl (by kernel_rfl) (by kernel_rfl) (by kernel_rfl) (fun _ _ _ h => h) (Or.inl ⟨by rfl, ?hy30⟩) hHeld ?rest30
      case hy30 =>
        intro w' hSw
        try dsimp only at hSw
        go_simp
        first | done | with_reducible rfl
      try simp only [Act.put, zq1, zq2, zq3, zq4, zq5, zq6]
      refine wpAnyH_take (i := 2) (v := ?v31) rfl (by kernel_rfl) (by kernel_rfl) (by kernel_rfl) (fun _ _ _ h => h) (Or.inl ⟨by rfl, ?hy31⟩) hHeld ?rest31
      case hy31 =>
        intro w' hSw
        try dsimp only at hSw
        go_simp
        first | done | with_reducible rfl
      try simp only [Act.put, zq1, zq2, zq3, zq4, zq5, zq6]
      refine wpAnyH_take (i := 3) (v := ?v32) rfl (by kernel_rfl) (by kernel_rfl) (by kernel_rfl) (fun _ _ _ h => h) (Or.inl ⟨by rfl, ?hy32⟩) hHeld ?rest32
      case hy32 =>
        intro w' hSw
        try dsimp only at hSw
        go_simp
        first | done | with_reducible rfl
      try simp only [Act.put, zq1, zq2, zq3, zq4, zq5, zq6]
      refine wpAnyH_take (i := 4) (v := ?v33) rfl (by kernel_rfl) (by kernel_rfl) (by kernel_rfl) (fun _ _ _ h => h) (Or.inl ⟨by rfl, ?hy33⟩) hHeld ?rest33
      case hy33 =>
        intro w' hSw
        try dsimp only at hSw
        go_simp
        first | done | with_reducible rfl
      try simp only [Act.put, zq1, zq2, zq3, zq4, zq5, zq6]
      refine wpAnyH_take (i := 5) (v := ?v34) rfl (by kernel_rfl) (by kernel_rfl) (by kernel_rfl) (fun _ _ _ h => h) (Or.inl ⟨by rfl, ?hy34⟩) hHeld ?rest34
      case hy34 =>
        intro w' hSw
        try dsimp only at hSw
        go_simp
        first | done | with_reducible rfl
      try simp only [Act.put, zq1, zq2, zq3, zq4, zq5, zq6]
      refine wpAnyH_take (i := 6) (v := ?v35) rfl (by kernel_rfl) (by kernel_rfl) (by kernel_rfl) (fun _ _ _ h => h) (Or.inl ⟨by rfl, ?hy35⟩) hHeld ?rest35
      case hy35 =>
        intro w' hSw
        try dsimp only at hSw
        go_simp
        first | done | with_reducible rfl
      try simp only [Act.put, zq1, zq2, zq3, zq4, zq5, zq6]
      refine wpAnyH_take (i := 7) (v := ?v36) rfl (by kernel_rfl) (by kernel_rfl) (by kernel_rfl) (fun _ _ _ h => h) (Or.inl ⟨by rfl, ?hy36⟩) hHeld ?rest36
      case hy36 =>
        intro w' hSw
        try dsimp only at hSw
        go_simp
        first | done | with_reducible rfl
      try simp only [Act.put, zq1, zq2, zq3, zq4, zq5, zq6]
      refine wpAnyH_take (i := 8) (v := ?v37) rfl (by kernel_rfl) (by kernel_rfl) (by kernel_rfl) (fun _ _ _ h => h) (Or.inl ⟨by rfl, ?hy37⟩) hHeld ?rest37
      case hy37 =>
        intro w' hSw
        try dsimp only at hSw
        go_simp
        first | done | with_reducible rfl
      try simp only [Act.put, zq1, zq2, zq3, zq4, zq5, zq6]
      refine wpAnyH_take (i := 9) (v := ?v38) rfl (by kernel_rfl) (by kernel_rfl) (by kernel_rfl) (fun _ _ _ h => h) (Or.inl ⟨by rfl, ?hy38⟩) hHeld ?rest38
      case hy38 =>
        intro w' hSw
        try dsimp only at hSw
        go_simp
        first | done | with_reducible rfl
      try simp only [Act.put, zq1, zq2, zq3, zq4, zq5, zq6]
      refine wpAnyH_take (i := 10) (v := ?v39) rfl (by kernel_rfl) (by kernel_rfl) (by kernel_rfl) (fun _ _ _ h => h) (Or.inl ⟨by rfl, ?hy39⟩) hHeld ?rest39
      case hy39 =>
        intro w' hSw
        try dsimp only at hSw
        go_simp
        first | done | with_reducible rfl
      try simp only [Act.put, zq1, zq2, zq3, zq4, zq5, zq6]
      refine wpAnyH_take (i := 11) (v := ?v40) rfl (by kernel_rfl) (by kernel_rfl) (by kernel_rfl) (fun _ _ _ h => h) (Or.inl ⟨by rfl, ?hy40⟩) hHeld ?rest40
      case hy40 =>
        intro w' hSw
        try dsimp only at hSw
        go_simp
        first | done | with_reducible rfl
      try simp only [Act.put, zq1, zq2, zq3, zq4, zq5, zq6]
      refine wpAnyH_take (i := 12) rfl (by kernel_rfl) (by kernel_rfl) (by kernel_rfl) (fun _ _ _ h => h) (y_kyJ (by rfl) (.tmp 50) (by rfl) g (off + 3 + j * 6) (by rfl) (slt u j) (fun _ h => h.2)) hHeld ?_
      try simp only [Act.put, zq1, zq2, zq3, zq4, zq5, zq6]
      refine wpAnyH_take (i := 14) (v := ?v41) rfl (by kernel_rfl) (by kernel_rfl) (by kernel_rfl) (fun _ _ _ h => h) (Or.inl ⟨by rfl, ?hy41⟩) hHeld ?rest41
      case hy41 =>
        intro w' hSw
        try dsimp only at hSw
        go_simp
        first | done | with_reducible rfl
      try simp only [Act.put, zq1, zq2, zq3, zq4, zq5, zq6]
      refine wpAnyH_ready (rs := [13]) (by kernel_rfl) (by simp) ?_
      refine AllReadyH.cons (by rfl) (fun K hK => ?_) AllReadyH.nil
      go_simp
      refine (prep_at HI.out.st.drew HN.out HI.out.tab.drew (slt u j)).mono ?_
      rintro e y1 ⟨rfl, b1⟩
      have HB1 := Lib.hid ((below_drew HI.out.bel).trans (b1.mono HI.out.bel.size))
      have HS1 := Lib.hid (HI.out.st.drew.below b1)
      have HD1 := Lib.hid (HI.out.nd.drew.below b1)
      have HR1 := Lib.hid (HR.out.drew.keep b1)
      clear b1 hHeld
      go_wp2_with fail
      refine hK.out _ _ ⟨HD1.out.at_.st, HD1.out.slot HJ.out⟩ (fun hHeld => ?_)
      clear hK K
      try simp only [Act.put, zq1, zq2, zq3, zq4, zq5, zq6]
      refine wpAnyH_take (i := 15) (v := ?v42) rfl (by kernel_rfl) (by kernel_rfl) (by kernel_rfl) (fun _ _ _ h => h) (Or.inl ⟨by rfl, ?hy42⟩) hHeld ?rest42
      case hy42 =>
        intro w' hSw
        try dsimp only at hSw
        go_simp
        first | done | with_reducible rfl
      try simp only [Act.put, zq1, zq2, zq3, zq4, zq5, zq6]
      refine wpAnyH_ready (rs := [16]) (by kernel_rfl) (by simp) ?_
      refine AllReadyH.cons (by rfl) (fun K hK => ?_) AllReadyH.nil
      refine step_store_in HR1.out rfl (.tmp 54) (.tmp 52) (ty := 33) (l := kl (prepd os (slt u j))) (off := 2 + i * 6) (by rfl) (by rfl) (by rfl) size30 HFT.out (kl_one _) HSE.out ?_
      have HB2 := Lib.hid (below_setRow HB1.out (Nat.le_refl w.heap.size) (mq.ksAs (mq.k.set i (prepd os (slt u j))) HML.out).cells.toArray)
      have HS2 := Lib.hid (HS1.out.keep (w' := y1.setRow w.heap.size (mq.ksAs (mq.k.set i (prepd os (slt u j))) HML.out).cells.toArray) fun k hk => setRow_other _ _ _ _ (fun e => HS1.out.blk_ne HR1.out (by decide) HNP.out (e ▸ hk)))
      have HD2 := Lib.hid (HD1.out.keep (w' := y1.setRow w.heap.size (mq.ksAs (mq.k.set i (prepd os (slt u j))) HML.out).cells.toArray) (setRow_other _ _ _ _ (by have := HGL.out; omega)))
      have HR2 := Lib.hid (HR1.out.setRow (mq.ksAs (mq.k.set i (prepd os (slt u j))) HML.out).cells.toArray)
      refine hK.out _ _ ⟨HD2.out.at_.st, HD2.out.slot HJ.out⟩ (fun hHeld => ?_)
      clear hK K
      try simp only [Act.put, zq1, zq2, zq3]
      refine wpAnyH_done (by kernel_rfl) ?_ _
      refine OnlyN.normal ?_
      clear hHeld
      go_wp2_with fail
      go_roundw
      case rel =>
        obtain ⟨_, hsu⟩ := HSU.out
        exact ⟨i + 1, by have := HLT.out; omega, by go_num, HB2.out, HS2.out, HTW.out.below HB2.out, HD2.out, HLT.out, by rw [← hsu]; exact HR2.out⟩
      case measure => simp [intOf]; omega
    · have hi3 : i = 3 := by omega
      subst hi3
      have d0 : decide ((3 : Int) < 3) = false := rfl
      rw [tolC_all] at hmb
      have HR := Lib.hid hmb
      have hcl := (tolM os u).len
      clear hmb
      go_wp2_with (first
        | (show wpList _ _ _ (Oper.mk (some 56) (.load _ _) _ _ _ _ :: _) _ _; refine wpList_yields (S := fun w' => MgAt w' w.heap.size 0 (tolM os u)) (y_mg (by rfl) (.tmp 2) (by rfl) w.heap.size 0 (by rfl) (tolM os u) (fun _ h => h)) HR.out.mg ?_)
        | (show wpList _ _ _ (Oper.mk none (.store _ (.tmp 2) (.tmp 56)) _ _ _ _ :: _) _ _; refine wpList_store_big (l0 := (tolM os u).cells) (l := (tolM os u).cells) HR.out rfl (.tmp 2) (.tmp 56) (ty := 38) rfl (by rfl) (by rfl) (by rw [Mg.len]; exact sizeM) rfl (Mg.one _) ?_))
      exact bodyPost_ret (res_1 rfl _ _ w.heap.size _ rfl (load_mg (HR.out.setRow _))) rfl ⟨rfl, below_setRow HI.out.bel (Nat.le_refl _) _⟩
set_option maxRecDepth 100000 in
set_option maxHeartbeats 4000000 in
theorem told_d (h : NdB w g off t X Y (some ⟨q, 0, none⟩) x u) (hs : StAt w base q A cap ps os) (hn : 0 < os.length) (hT : Tab w) (hk : (slt u 3).k ≠ 1) (hd : ¬ ((u.b[0]?).getD 0).toNat ≤ 32) : Calls Tryd.prog 54 #[.pointer (some ⟨g, off, none⟩)] w fun e w' => e = .returned (tolM os u).val ∧ Below w.heap.size w w' := by
  have hz := zM
  have hzl := mz.len
  have HGL := Lib.hid h.lt
  have HNP := Lib.hid (show w.heap.size ≠ q by have := (hs.lt q (.inl rfl)).2; omega)
  have HN := Lib.hid hn
  have HTW := Lib.hid hT
  have HK := Lib.hid (show KeyAt (w.alloc (.cells mz.cells.toArray 38)) g (off + 21) (slt u 3) from (h.alloc (.cells mz.cells.toArray 38)).slot (i := 3) (by decide))
  have HK1 := Lib.hid (Blk.new_of (w.alloc (.cells mz.cells.toArray 38)) 33 (kl (slt u 3)).toArray (g := w.heap.size + 1) (by simp))
  have hkl := kl_len (slt u 3)
  obtain ⟨k0, k1, k2, k3, k4, k5⟩ := HK1.out.six
  have dk : ((slt u 3).k == 1) = false := by simpa using hk
  have hck : codK (slt u 3) = 0 := if_neg hk
  have HB1 := Lib.hid (((Below.refl w.heap.size w).alloc (Nat.le_refl _) (.cells mz.cells.toArray 38)).alloc (by simp) (.cells (kl (slt u 3)).toArray 33))
  have HR1 := Lib.hid (show Blk ((w.alloc (.cells mz.cells.toArray 38)).alloc (.cells (kl (slt u 3)).toArray 33)) w.heap.size 38 (mz : Mg).cells.toArray from (Blk.new w 38 mz.cells.toArray).alloc (.cells (kl (slt u 3)).toArray 33))
  have HD1 := Lib.hid ((h.alloc (.cells mz.cells.toArray 38)).alloc (.cells (kl (slt u 3)).toArray 33))
  have HS1 := Lib.hid ((hs.alloc (.cells mz.cells.toArray 38)).alloc (.cells (kl (slt u 3)).toArray 33))
  have hb0 : 0 < u.b.length := by rw [u.hb]; decide
  have hbe : (u.b[0]?).getD 0 = u.b[0] := by rw [List.getElem?_eq_getElem hb0]; rfl
  have b0 : ((w.alloc (.cells mz.cells.toArray 38)).alloc (.cells (kl (slt u 3)).toArray 33)).cell? ⟨g, off + 99, none⟩ = some (.int .u8 (((u.b[0]?).getD 0).toNat : Int)) := by
    rw [hbe]
    exact byte_of_range HD1.out.ob.bytes 0 hb0
  have HRD := Lib.hid (show Rd ((w.alloc (.cells mz.cells.toArray 38)).alloc (.cells (kl (slt u 3)).toArray 33)) (some ⟨g, off + 100, none⟩) ((u.b.drop 1).take ((u.b[0]?).getD 0).toNat) from fun j hj => by
    have hj' : j < 63 := by rw [List.length_take, List.length_drop, u.hb] at hj; omega
    refine ⟨g, off + 100, rfl, ?_⟩
    have := byte_of_range HD1.out.ob.bytes (1 + j) (by rw [u.hb]; omega)
    rw [show off + 100 + j = off + 99 + (1 + j) by omega, this]
    simp [Nat.add_comm])
  have hwn : IntKind.i64.wrap (((u.b[0]?).getD 0).toNat : Int) = (((u.b[0]?).getD 0).toNat : Int) := wrap64 (by have := ((u.b[0]?).getD 0).toNat_lt; omega)
  have hdb : datB u.b = [] := if_neg hd
  have d32 : decide ((((u.b[0]?).getD 0).toNat : Int) ≤ 32) = false := decide_eq_false (by omega)
  have HB2 := Lib.hid (((Below.refl w.heap.size w).alloc (Nat.le_refl _) (.cells mz.cells.toArray 38)).alloc (by simp) (.cells (kl (slt u 3)).toArray 33))
  have HR2 := Lib.hid (show Blk ((w.alloc (.cells mz.cells.toArray 38)).alloc (.cells (kl (slt u 3)).toArray 33)) w.heap.size 38 (mz : Mg).cells.toArray from (Blk.new w 38 mz.cells.toArray).alloc (.cells (kl (slt u 3)).toArray 33))
  have HD2 := Lib.hid ((h.alloc (.cells mz.cells.toArray 38)).alloc (.cells (kl (slt u 3)).toArray 33))
  have HS2 := Lib.hid ((hs.alloc (.cells mz.cells.toArray 38)).alloc (.cells (kl (slt u 3)).toArray 33))
  have HI : Hid (Jtw w ((w.alloc (.cells mz.cells.toArray 38)).alloc (.cells (kl (slt u 3)).toArray 33)) base q A cap ps os g off t X Y x u 0) := Lib.hid ⟨HB2.out, HS2.out, hT.below HB2.out, HD2.out, by omega, by
    have e : tolC os u 0 (by omega) = ⟨codK (slt u 3), datB u.b, [zk, zk, zk], rfl⟩ := rfl
    rw [e, hck, hdb]
    exact HR2.out⟩
  clear hs hT hn hk hd hck hdb hbe hb0 h HB1 HR1 HD1 HS1 HB2 HR2 HD2 HS2
  go_enter Tryd.func54, Tryd.ntmps54
  go_wp2_with (first
    | (show wpList _ _ _ (Oper.mk (some 11) (.load _ _) _ _ _ _ :: _) _ _; refine wpList_yields (S := fun w' => KeyAt w' g (off + 21) (slt u 3)) (y_kyJ (by rfl) (.tmp 10) (by rfl) g (off + 21) (by rfl) (slt u 3) (fun _ h => h)) HK.out ?_)
    | (show wpList _ _ _ (Oper.mk none (.store _ (.tmp 3) (.tmp 11)) _ _ _ _ :: _) _ _; refine wpList_store_new (l := kl (slt u 3)) (l0 := kl zk) (ty := 33) rfl (.tmp 3) (.tmp 11) (by rfl) (w.heap.size + 1) (by simp) (by rfl) (by rfl) size30 rfl (kl_one _) ?_))
  go_loopw [5, 36] (fun _ k wr => ∃ i : Nat, i ≤ 3 ∧ k = .int .i64 i ∧ Jtw w wr base q A cap ps os g off t X Y x u i) (fun _ k _ => 4 - (intOf k).toNat)
  case atStart => exact ⟨0, by omega, rfl, by first | exact HI.out | (have := HI.out; rw [List.drop_one] at this; exact this)⟩
  case round =>
    obtain ⟨i, hi, rfl, hc⟩ := hrel
    clear HI
    have HI := Lib.hid hc
    obtain ⟨hi', hmb⟩ := hc.res
    clear hc
    by_cases hlt : i < 3
    · have d0 : decide ((i : Int) < 3) = true := decide_eq_true (by omega)
      have d1 : (i : Int) < 3 := by omega
      have HLT := Lib.hid hlt
      obtain ⟨mq, hq⟩ : ∃ mq, tolC os u i hi' = mq := ⟨_, rfl⟩
      have HML := Lib.hid (show (mq.k.set i (prepd os (slt u (12 + i)))).length = 3 by rw [List.length_set]; exact mq.hk)
      have HSU : Hid (∃ h, mq.ksAs (mq.k.set i (prepd os (slt u (12 + i)))) HML.out = tolC os u (i + 1) h) := Lib.hid ⟨hlt, by subst hq; exact tolC_succ os u i hlt⟩
      rw [hq] at hmb
      have HR := Lib.hid hmb
      have HSE := Lib.hid (mg_key mq i hlt (prepd os (slt u (12 + i))))
      have HFT := Lib.hid (show 2 + i * 6 + (kl (prepd os (slt u (12 + i)))).length ≤ mq.cells.length by rw [kl_len, mq.len]; omega)
      have HJ := Lib.hid (show 12 + i < 16 by omega)
      have d16 : ((12 + i : Nat) : Int) < 16 := by omega
      have hw12 : IntKind.i64.wrap (12 + (i : Int)) = ((12 + i : Nat) : Int) := by rw [wrap64 (by omega)]; omega
      generalize 12 + i = j at *
      clear hlt hq hmb
      go_wp2_with fail
      refine wp_region_only (S := fun w' => w'.cell? ⟨g, off + 164, none⟩ = some (.pointer (some ⟨q, 0, none⟩)) ∧ KeyAt w' g (off + 3 + j * 6) (slt u j)) (by kernel_rfl) ⟨HI.out.nd.drew.at_.st, HI.out.nd.drew.slot HJ.out⟩ (fun hHeld => ?_)
      refine wpAnyH_take (i := 0) (v := ?v43) rfl (by kernel_rfl) (by kernel_rfl) (by kernel_rfl) (fun _ _ _ h => h) (Or.inl ⟨by rfl, ?hy43⟩) hHeld ?rest43
      case hy43 =>
        intro w' hSw
        try dsimp only at hSw
        go_simp
        first | done | with_reducible rfl
      try simp only [Act.put, zq1, zq3, zq4, zq5, zq6]
      refine wpAnyH_take (i := 1) (v := ?v44) rfl (by kernel_rfl) (by kernel_rfl) (by kernel_rfl) (fun _ _ _ h => h) (Or.inl ⟨by rfl, ?hy44⟩) hHeld ?rest44
      case hy44 =>
        intro w' hSw
        try dsimp only at hSw
        go_simp
        first | done | with_reducible rfl
      try simp only [Act.put, zq1, zq2, zq3, zq4, zq5, zq6]
      refine wpAnyH_take (i := 2) (v := ?v45) rfl (by kernel_rfl) (by kernel_rfl) (by kernel_rfl) (fun _ _ _ h => h) (Or.inl ⟨by rfl, ?hy45⟩) hHeld ?rest45
      case hy45 =>
        intro w' hSw
        try dsimp only at hSw
        go_simp
        first | done | with_reducible rfl
      try simp only [Act.put, zq1, zq2, zq3, zq4, zq5, zq6]
      refine wpAnyH_take (i := 3) (v := ?v46) rfl (by kernel_rfl) (by kernel_rfl) (by kernel_rfl) (fun _ _ _ h => h) (Or.inl ⟨by rfl, ?hy46⟩) hHeld ?rest46
      case hy46 =>
        intro w' hSw
        try dsimp only at hSw
        go_simp
        first | done | with_reducible rfl
      try simp only [Act.put, zq1, zq2, zq3, zq4, zq5, zq6]
      refine wpAnyH_take (i := 4) (v := ?v47) rfl (by kernel_rfl) (by kernel_rfl) (by kernel_rfl) (fun _ _ _ h => h) (Or.inl ⟨by rfl, ?hy47⟩) hHeld ?rest47
      case hy47 =>
        intro w' hSw
        try dsimp only at hSw
        go_simp
        first | done | with_reducible rfl
      try simp only [Act.put, zq1, zq2, zq3, zq4, zq5, zq6]
      refine wpAnyH_take (i := 5) (v := ?v48) rfl (by kernel_rfl) (by kernel_rfl) (by kernel_rfl) (fun _ _ _ h => h) (Or.inl ⟨by rfl, ?hy48⟩) hHeld ?rest48
      case hy48 =>
        intro w' hSw
        try dsimp only at hSw
        go_simp
        first | done | with_reducible rfl
      try simp only [Act.put, zq1, zq2, zq3, zq4, zq5, zq6]
      refine wpAnyH_take (i := 6) (v := ?v49) rfl (by kernel_rfl) (by kernel_rfl) (by kernel_rfl) (fun _ _ _ h => h) (Or.inl ⟨by rfl, ?hy49⟩) hHeld ?rest49
      case hy49 =>
        intro w' hSw
        try dsimp only at hSw
        go_simp
        first | done | with_reducible rfl
      try simp only [Act.put, zq1, zq2, zq3, zq4, zq5, zq6]
      refine wpAnyH_take (i := 7) (v := ?v50) rfl (by kernel_rfl) (by kernel_rfl) (by kernel_rfl) (fun _ _ _ h => h) (Or.inl ⟨by rfl, ?hy50⟩) hHeld ?rest50
      case hy50 =>
        intro w' hSw
        try dsimp only at hSw
        go_simp
        first | done | with_reducible rfl
      try simp only [Act.put, zq1, zq2, zq3, zq4, zq5, zq6]
      refine wpAnyH_take (i := 8) (v := ?v51) rfl (by kernel_rfl) (by kernel_rfl) (by kernel_rfl) (fun _ _ _ h => h) (Or.inl ⟨by rfl, ?hy51⟩) hHeld ?rest51
      case hy51 =>
        intro w' hSw
        try dsimp only at hSw
        go_simp
        first | done | with_reducible rfl
      try simp only [Act.put, zq1, zq2, zq3, zq4, zq5, zq6]
      refine wpAnyH_take (i := 9) (v := ?v52) rfl (by kernel_rfl) (by kernel_rfl) (by kernel_rfl) (fun _ _ _ h => h) (Or.inl ⟨by rfl, ?hy52⟩) hHeld ?rest52
      case hy52 =>
        intro w' hSw
        try dsimp only at hSw
        go_simp
        first | done | with_reducible rfl
      try simp only [Act.put, zq1, zq2, zq3, zq4, zq5, zq6]
      refine wpAnyH_take (i := 10) (v := ?v53) rfl (by kernel_rfl) (by kernel_rfl) (by kernel_rfl) (fun _ _ _ h => h) (Or.inl ⟨by rfl, ?hy53⟩) hHeld ?rest53
      case hy53 =>
        intro w' hSw
        try dsimp only at hSw
        go_simp
        first | done | with_reducible rfl
      try simp only [Act.put, zq1, zq2, zq3, zq4, zq5, zq6]
      refine wpAnyH_take (i := 11) (v := ?v54) rfl (by kernel_rfl) (by kernel_rfl) (by kernel_rfl) (fun _ _ _ h => h) (Or.inl ⟨by rfl, ?hy54⟩) hHeld ?rest54
      case hy54 =>
        intro w' hSw
        try dsimp only at hSw
        go_simp
        first | done | with_reducible rfl
      try simp only [Act.put, zq1, zq2, zq3, zq4, zq5, zq6]
      refine wpAnyH_take (i := 12) rfl (by kernel_rfl) (by kernel_rfl) (by kernel_rfl) (fun _ _ _ h => h) (y_kyJ (by rfl) (.tmp 50) (by rfl) g (off + 3 + j * 6) (by rfl) (slt u j) (fun _ h => h.2)) hHeld ?_
      try simp only [Act.put, zq1, zq2, zq3, zq4, zq5, zq6]
      refine wpAnyH_take (i := 14) (v := ?v55) rfl (by kernel_rfl) (by kernel_rfl) (by kernel_rfl) (fun _ _ _ h => h) (Or.inl ⟨by rfl, ?hy55⟩) hHeld ?rest55
      case hy55 =>
        intro w' hSw
        try dsimp only at hSw
        go_simp
        first | done | with_reducible rfl
      try simp only [Act.put, zq1, zq2, zq3, zq4, zq5, zq6]
      refine wpAnyH_ready (rs := [13]) (by kernel_rfl) (by simp) ?_
      refine AllReadyH.cons (by rfl) (fun K hK => ?_) AllReadyH.nil
      go_simp
      refine (prep_at HI.out.st.drew HN.out HI.out.tab.drew (slt u j)).mono ?_
      rintro e y1 ⟨rfl, b1⟩
      have HB1 := Lib.hid ((below_drew HI.out.bel).trans (b1.mono HI.out.bel.size))
      have HS1 := Lib.hid (HI.out.st.drew.below b1)
      have HD1 := Lib.hid (HI.out.nd.drew.below b1)
      have HR1 := Lib.hid (HR.out.drew.keep b1)
      clear b1 hHeld
      go_wp2_with fail
      refine hK.out _ _ ⟨HD1.out.at_.st, HD1.out.slot HJ.out⟩ (fun hHeld => ?_)
      clear hK K
      try simp only [Act.put, zq1, zq2, zq3, zq4, zq5, zq6]
      refine wpAnyH_take (i := 15) (v := ?v56) rfl (by kernel_rfl) (by kernel_rfl) (by kernel_rfl) (fun _ _ _ h => h) (Or.inl ⟨by rfl, ?hy56⟩) hHeld ?rest56
      case hy56 =>
        intro w' hSw
        try dsimp only at hSw
        go_simp
        first | done | with_reducible rfl
      try simp only [Act.put, zq1, zq2, zq3, zq4, zq5, zq6]
      refine wpAnyH_ready (rs := [16]) (by kernel_rfl) (by simp) ?_
      refine AllReadyH.cons (by rfl) (fun K hK => ?_) AllReadyH.nil
      refine step_store_in HR1.out rfl (.tmp 54) (.tmp 52) (ty := 33) (l := kl (prepd os (slt u j))) (off := 2 + i * 6) (by rfl) (by rfl) (by rfl) size30 HFT.out (kl_one _) HSE.out ?_
      have HB2 := Lib.hid (below_setRow HB1.out (Nat.le_refl w.heap.size) (mq.ksAs (mq.k.set i (prepd os (slt u j))) HML.out).cells.toArray)
      have HS2 := Lib.hid (HS1.out.keep (w' := y1.setRow w.heap.size (mq.ksAs (mq.k.set i (prepd os (slt u j))) HML.out).cells.toArray) fun k hk => setRow_other _ _ _ _ (fun e => HS1.out.blk_ne HR1.out (by decide) HNP.out (e ▸ hk)))
      have HD2 := Lib.hid (HD1.out.keep (w' := y1.setRow w.heap.size (mq.ksAs (mq.k.set i (prepd os (slt u j))) HML.out).cells.toArray) (setRow_other _ _ _ _ (by have := HGL.out; omega)))
      have HR2 := Lib.hid (HR1.out.setRow (mq.ksAs (mq.k.set i (prepd os (slt u j))) HML.out).cells.toArray)
      refine hK.out _ _ ⟨HD2.out.at_.st, HD2.out.slot HJ.out⟩ (fun hHeld => ?_)
      clear hK K
      try simp only [Act.put, zq1, zq2, zq3]
      refine wpAnyH_done (by kernel_rfl) ?_ _
      refine OnlyN.normal ?_
      clear hHeld
      go_wp2_with fail
      go_roundw
      case rel =>
        obtain ⟨_, hsu⟩ := HSU.out
        exact ⟨i + 1, by have := HLT.out; omega, by go_num, HB2.out, HS2.out, HTW.out.below HB2.out, HD2.out, HLT.out, by rw [← hsu]; exact HR2.out⟩
      case measure => simp [intOf]; omega
    · have hi3 : i = 3 := by omega
      subst hi3
      have d0 : decide ((3 : Int) < 3) = false := rfl
      rw [tolC_all] at hmb
      have HR := Lib.hid hmb
      have hcl := (tolM os u).len
      clear hmb
      go_wp2_with (first
        | (show wpList _ _ _ (Oper.mk (some 56) (.load _ _) _ _ _ _ :: _) _ _; refine wpList_yields (S := fun w' => MgAt w' w.heap.size 0 (tolM os u)) (y_mg (by rfl) (.tmp 2) (by rfl) w.heap.size 0 (by rfl) (tolM os u) (fun _ h => h)) HR.out.mg ?_)
        | (show wpList _ _ _ (Oper.mk none (.store _ (.tmp 2) (.tmp 56)) _ _ _ _ :: _) _ _; refine wpList_store_big (l0 := (tolM os u).cells) (l := (tolM os u).cells) HR.out rfl (.tmp 2) (.tmp 56) (ty := 38) rfl (by rfl) (by rfl) (by rw [Mg.len]; exact sizeM) rfl (Mg.one _) ?_))
      exact bodyPost_ret (res_1 rfl _ _ w.heap.size _ rfl (load_mg (HR.out.setRow _))) rfl ⟨rfl, below_setRow HI.out.bel (Nat.le_refl _) _⟩
set_option maxRecDepth 8000 in
theorem told_any (h : NdB w g off t X Y (some ⟨q, 0, none⟩) x u) (hs : StAt w base q A cap ps os) (hn : 0 < os.length) (hT : Tab w) : Calls Tryd.prog 54 #[.pointer (some ⟨g, off, none⟩)] w fun e w' => e = .returned (tolM os u).val ∧ Below w.heap.size w w' := by
  by_cases hk : (slt u 3).k = 1
  · by_cases hd : ((u.b[0]?).getD 0).toNat ≤ 32
    · exact told_a h hs hn hT hk hd
    · exact told_b h hs hn hT hk hd
  · by_cases hd : ((u.b[0]?).getD 0).toNat ≤ 32
    · exact told_c h hs hn hT hk hd
    · exact told_d h hs hn hT hk hd
end
end Go.Proofs.YtljfddeolapeaaaDoor

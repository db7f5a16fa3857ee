/- codec: keys and objects there and back: plain. -/
import Derived.Test.YtfclkkbmgclfgaaDoorZP
import Derived.Test.YtfclkkbmgclfgaaDoorZT
import Derived.Test.YtfclkkbmgclfgaaDoorZL
namespace Go.Proofs.YtfclkkbmgclfgaaDoor
open Go.RowKit
set_option maxRecDepth 8000 in
theorem kof_kbs {x : Ky} (h : x.fit) (t : List UInt8) : kof (kbs x ++ t) = x := by
  have e1 : ((kbs x ++ t).drop 2).take 2 = bytesLE 2 x.o.toNat := rfl
  have e2 : ((kbs x ++ t).drop 4).take 4 = bytesLE 4 x.c.toNat := rfl
  have e3 : ((kbs x ++ t).drop 8).take 4 = bytesLE 4 x.l.toNat := rfl
  have e4 : ((kbs x ++ t).drop 12).take 8 = bytesLE 8 (un x.v) := rfl
  have e5 : b0 (kbs x ++ t) = UInt8.ofNat x.k.toNat := rfl
  have e6 : b0 ((kbs x ++ t).drop 1) = UInt8.ofNat x.r.toNat := rfl
  have ho := h.o
  have hc := h.c
  have hl := h.l
  have hk := h.k
  have hr := h.r
  unfold kof
  rw [e1, e2, e3, e4, e5, e6, numLE_bytesLE _ _ (by omega), numLE_bytesLE _ _ (by omega), numLE_bytesLE _ _ (by omega), numLE_bytesLE 8 _ (by have := un_lt x.v; omega), sg_un h.v.1 h.v.2]
  obtain ⟨k, o, c, l, r, v⟩ := x
  simp only [Ky.mk.injEq, and_true]
  simp only at ho hc hl hk hr
  refine ⟨?_, by omega, by omega, by omega, ?_⟩
  · simp; omega
  · simp; omega
set_option maxRecDepth 8000 in
theorem kof_kbs0 {x : Ky} (h : x.fit) : kof (kbs x) = x := by
  have := kof_kbs h []
  rwa [List.append_nil] at this
set_option maxRecDepth 8000 in
theorem kks_cut (s : List Ky) (k : Nat) (h : k < s.length) (t : List UInt8) : ∃ r, (kks s ++ t).drop (k * 20) = kbs s[k] ++ r := by
  induction s generalizing k with
  | nil => simp at h
  | cons x s ih =>
    have e : kks (x :: s) = kbs x ++ kks s := by simp [kks]
    cases k with
    | zero => exact ⟨kks s ++ t, by rw [e]; simp⟩
    | succ k =>
      obtain ⟨r, hr⟩ := ih k (by simpa using h)
      refine ⟨r, ?_⟩
      have hl : (k + 1) * 20 = (kbs x).length + k * 20 := by rw [kbs_length]; omega
      rw [e, hl, List.append_assoc, List.drop_length_add_append, hr]
      rfl
set_option maxRecDepth 8000 in
theorem kofs_kks (s : List Ky) (hs : ∀ x ∈ s, x.fit) (t : List UInt8) (n : Nat) (h : n ≤ s.length) : kofs n (kks s ++ t) = s.take n := by
  induction n with
  | zero => rfl
  | succ n ih =>
    have hn : n < s.length := by omega
    obtain ⟨r, hr⟩ := kks_cut s n hn t
    rw [kofs, ih (by omega), hr, kof_kbs (hs _ (List.getElem_mem hn)) r, take_snoc s n hn]
set_option maxRecDepth 8000 in
theorem obof_obs {u : Oj} (h : u.fit) : obof (obs u) = u := by
  have e1 : ((obs u).drop 4).take 4 = bytesLE 4 u.c.toNat := rfl
  have e2 : ((obs u).drop 8).take 4 = bytesLE 4 u.l.toNat := rfl
  have e3 : b0 (obs u) = UInt8.ofNat u.k.toNat := rfl
  have e4 : (obs u).drop 12 = kks u.s ++ (u.b ++ List.replicate 112 0) := rfl
  have e5 : (obs u).drop 332 = u.b ++ List.replicate 112 0 := by
    rw [show (332 : Nat) = 12 + 320 from rfl, ← List.drop_drop, e4]
    have : 320 = (kks u.s).length := by rw [kks_length, u.hs]
    rw [this, List.drop_left]
  have e6 : ((obs u).drop 332).take 64 = u.b := by
    rw [e5]
    exact List.take_left' u.hb
  have hc := h.c
  have hl := h.l
  have hk := h.k
  have hb : (obof (obs u)).b = u.b := by rw [obof_b (obs_length u), e6]
  have hs : (obof (obs u)).s = u.s := by
    show kofs 16 ((obs u).drop 12) = u.s
    rw [e4, kofs_kks u.s h.s _ 16 (by rw [u.hs]; exact Nat.le_refl _), List.take_of_length_le (by rw [u.hs]; exact Nat.le_refl _)]
  have h0 : (obof (obs u)).k = u.k := by show ((b0 (obs u)).toNat : Int) = u.k; rw [e3]; simp; omega
  have h1 : (obof (obs u)).c = u.c := by show (numLE (((obs u).drop 4).take 4) : Int) = u.c; rw [e1, numLE_bytesLE _ _ (by omega)]; omega
  have h2 : (obof (obs u)).l = u.l := by show (numLE (((obs u).drop 8).take 4) : Int) = u.l; rw [e2, numLE_bytesLE _ _ (by omega)]; omega
  revert hb hs h0 h1 h2
  generalize obof (obs u) = v
  intro hb hs h0 h1 h2
  obtain ⟨k, c, l, s, b, _, _⟩ := u
  obtain ⟨k', c', l', s', b', _, _⟩ := v
  simp only at hb hs h0 h1 h2
  subst hb hs h0 h1 h2
  rfl
set_option maxRecDepth 8000 in
theorem obs_noughts (u : Oj) : nou (((obs u).drop 1).take 3) ∧ nou (((obs u).drop 396).take 112) := by
  constructor
  · have e : ((obs u).drop 1).take 3 = List.replicate 3 0 := rfl
    rw [e]
    exact nou_rep 3
  · have e4 : (obs u).drop 12 = kks u.s ++ (u.b ++ List.replicate 112 0) := rfl
    have e : (obs u).drop 396 = List.replicate 112 0 := by
      rw [show (396 : Nat) = 12 + (320 + 64) from rfl, ← List.drop_drop, ← List.drop_drop, e4]
      have h1 : 320 = (kks u.s).length := by rw [kks_length, u.hs]
      rw [h1, List.drop_left]
      have h2 : 64 = u.b.length := u.hb.symm
      rw [h2, List.drop_left]
    rw [e]
    exact fun x hx => nou_rep 112 x (List.mem_of_mem_take hx)
set_option maxRecDepth 8000 in
theorem seal_take {l : List UInt8} (h : l.length = 508) : (sealN l).take 508 = l := by
  unfold sealN
  exact List.take_left' h
set_option maxRecDepth 8000 in
theorem seal_ok {l : List UInt8} (h : l.length = 508) : sumok (sealN l) := by
  unfold sumok
  rw [seal_take h]
  unfold sealN
  rw [show (508 : Nat) = l.length from h.symm, List.drop_left, numLE_bytesLE 4 _ (by have := crcN_lt l; omega)]
def Gok' (n : Int) (l : List UInt8) : Prop := nou (((l.take 508).drop 1).take 3) ∧ nou (((l.take 508).drop 396).take 112) ∧ (obof (l.take 508)).ok n
set_option maxRecDepth 8000 in
theorem put_get {u : Oj} {n : Int} (h : u.ok n) (hf : u.fit) : Gok' n (sealN (obs u)) := by
  rw [Gok', seal_take (obs_length u)]
  exact ⟨(obs_noughts u).1, (obs_noughts u).2, by rw [obof_obs hf]; exact h⟩
end Go.Proofs.YtfclkkbmgclfgaaDoor
namespace Go.Proofs.YtfclkkbmgclfgaaDoor
open Go.RowKit
abbrev OT : TypeId := 30
abbrev KT : TypeId := 26
abbrev SE : TypeId := 44
def k0 : Ky := ⟨6, 7, 2, 0, 0, -1⟩
def k1 : Ky := ⟨1, 0, 0, 0, 0, 9⟩
theorem k0_ok : k0.ok := ⟨6, rfl, by decide, by decide, by decide, by decide, by decide, by decide, by decide, by decide, by decide, .inr (by decide)⟩
theorem k1_ok : k1.ok := ⟨1, rfl, by decide, by decide, by decide, by decide, by decide, by decide, by decide, by decide, by decide, .inr (by decide)⟩
theorem k0_fit : k0.fit := fit_of k0_ok (by decide) (by decide)
theorem k0_good : good (kbs k0) := ⟨kbs_length _, by rw [kof_kbs0 k0_fit]; exact k0_ok⟩
/-- the object, without and with its key -/
def o1 : Oj := { oz with k := 1, c := 3 }
def o2 : Oj := { o1 with s := zks.set 1 k1, hs := by rw [List.length_set]; rfl }
set_option maxRecDepth 8000 in
theorem o2_ok : o2.ok 4 := by
  refine ⟨by decide, by decide, by decide, .inl ⟨rfl, fun x hx => ?_⟩⟩
  have : x = k1 ∨ x = zk := by
    rcases List.mem_or_eq_of_mem_set hx with h | h
    · exact .inr (List.mem_replicate.1 h).2
    · exact .inl h
  rcases this with rfl | rfl
  · exact ⟨k1_ok, fun h => absurd h.2.1 (by decide)⟩
  · exact zk_may 4
set_option maxRecDepth 8000 in
theorem o2_fit : o2.fit := ofit_of o2_ok fun x hx => by
  have : x = k1 ∨ x = zk := by
    rcases List.mem_or_eq_of_mem_set hx with h | h
    · exact .inr (List.mem_replicate.1 h).2
    · exact .inl h
  rcases this with rfl | rfl <;> decide
theorem o2_got : Gok 4 (sealN (obs o2)) := put_get o2_ok o2_fit
set_option maxRecDepth 8000 in
theorem z512_sum : ¬ sumok z512 := by
  have h : crcN (z512.take 508) = 263941460 := by kernel_rfl
  unfold sumok
  rw [h]
  have h2 : numLE (z512.drop 508) = 0 := by rfl
  rw [h2]
  decide
set_option maxRecDepth 8000 in
theorem cnum_any (n : Int) (w : World) : Calls Tryd.prog 6 #[.int .i64 n] w fun e w' => e = .returned (.int .i64 n) ∧ w = w' := by
  go_enter Tryd.func6, Tryd.ntmps6
  go_wp2
  go_ret
  exact ⟨rfl, rfl⟩
end Go.Proofs.YtfclkkbmgclfgaaDoor
namespace Go.Proofs.YtfclkkbmgclfgaaDoor
open Go.RowKit
set_option maxRecDepth 8000 in
theorem built44b : Tryd.prog.built 30 [(0, .int .i64 1), (1, .int .i64 3)] = some o1.cells.toArray := by kernel_rfl
set_option maxRecDepth 8000 in
theorem built45 : Tryd.prog.built 44 [] = some (bv z512).toArray := by kernel_rfl
theorem y_build2 {ops : Array Oper} {o : Oper} {a : Act} {S : World → Prop} {t : TypeId} {cs : Array Value} (x y : Value) (hw : Region.wanted o (yielded ops a.tmps) = true) (ho : o.op = .build t #[(0, .const x), (1, .const y)]) (hb : Tryd.prog.built t [(0, x), (1, y)] = some cs) : YieldsIf Tryd.prog ops S o (.agg cs) a := .inl ⟨hw, fun w _ => by
  unfold execOp
  simp only [ho, Sem.run_bind]
  have := run_build w t #[(0, x), (1, y)] cs hb
  simp only [List.map_toArray, List.map_cons, List.map_nil, Act.eval]
  simp only [this, Result.andThen_ok, Sem.run_pure]⟩
section
variable {P : Program} {w : World} {b off : Nat} {t : TypeId} {l ys : List Value}
set_option maxRecDepth 8000 in
theorem run_storeVar_mid (ty : TypeId) (hb : Blk w b t l.toArray) (hfit : off + ys.length ≤ l.length) (hi : (P.info? ty).map (·.size) = some ys.length) (h1 : ∀ u ∈ ys, u.oneCell' = true) :
    (storeVar ty ⟨b, off, none⟩ (.agg ys.toArray)).run P w = .ok () (w.setRow b (l.take off ++ ys ++ l.drop (off + ys.length)).toArray) := by
  have := run_storeCells_at P b off t ys 0 l.toArray w hb (by simpa using hfit) h1
  cases hq : P.info? ty with
  | none => simp [hq] at hi
  | some i =>
    have hs : ys.length = i.size := by simp [hq] at hi; omega
    simp only [Nat.add_zero] at this
    simp [storeVar, sizeOf, typeInfo, hq, Value.cells, hs, this]
theorem wpList_store_mid {ops : Array Oper} {rest : List Oper} {o : Oper} {a : Act} {Q : Exit → Act → World → Prop} (hgd : o.guard = none) (ty : TypeId) (x y : Operand) (ho : o.op = .store ty x y) (hb : Blk w b t l.toArray) (hx : a.eval x = .pointer (some ⟨b, off, none⟩)) (hy : a.eval y = .agg ys.toArray)
    (hfit : off + ys.length ≤ l.length) (hi : (P.info? ty).map (·.size) = some ys.length) (h1 : ∀ u ∈ ys, u.oneCell' = true) (h : wpList P ops Q rest (a.put o.dst undef) (w.setRow b (l.take off ++ ys ++ l.drop (off + ys.length)).toArray)) : wpList P ops Q (o :: rest) a w :=
  wpList_plain hgd fun _ hK => by
    unfold Oper.wp execOp
    simp only [ho, hx, hy, Instr.storeAt, Instr.sureAddr, Sem.run_bind, Sem.run_pure, Result.andThen_ok, run_storeVar_mid ty hb hfit hi h1]
    exact hK _ _ h
end
set_option maxRecDepth 8000 in
theorem kl_one (y : Ky) : ∀ u ∈ kl y, u.oneCell' = true := by
  intro u h
  simp only [kl, List.mem_cons, List.not_mem_nil, or_false] at h
  rcases h with rfl | rfl | rfl | rfl | rfl | rfl <;> rfl
set_option maxRecDepth 8000 in
theorem o2_cells : (o1.cells.take 9 ++ kl k1 ++ o1.cells.drop (9 + (kl k1).length)) = o2.cells := by rfl
theorem pk0 (w : World) (hT : Tab w) : Calls Tryd.prog 5 #[.agg #[.int .i64 6, .int .i64 7, .int .i64 2, .int .i64 0, .int .i64 0, .int .i64 (-1)]] w fun e w' => ∃ u, e = .returned (.tuple #[u, .int .i64 0]) ∧ w'.ownsRow w.heap.size 5 1 u 20 (bv (kbs k0)) ∧ Below w.heap.size w w' := putkey_yes k0 w hT k0_ok k0_fit
set_option maxRecDepth 8000 in
theorem gk0 (A : Option Addr) (c : Nat) (w : World) (hT : Tab w) (hc : 20 ≤ c) (hr : Rd w A (kbs k0)) : Calls Tryd.prog 7 #[.slice A 20 c] w fun e w' => e = .returned (.tuple #[.agg #[.int .i64 6, .int .i64 7, .int .i64 2, .int .i64 0, .int .i64 0, .int .i64 (-1)], .int .i64 0]) ∧ Below w.heap.size w w' := by
  have h := getkey_yes A 20 c (kbs k0) w hT (kbs_length _) hc hr k0_good
  rw [kof_kbs0 k0_fit] at h
  exact h
set_option maxRecDepth 8000 in
theorem gs0 (w : World) (hT : Tab w) : Calls Tryd.prog 9 #[sv (sealN (obs o2)), .int .i64 4] w fun e w' => e = .returned (.tuple #[o2.val, .int .i64 0]) ∧ Below w.heap.size w w' := by
  have h := cget_yes (sealN (obs o2)) (sealed_len o2) 4 w hT (by decide) (seal_ok (obs_length o2)) o2_got
  rw [seal_take (obs_length o2), obof_obs o2_fit] at h
  exact h
set_option maxRecDepth 8000 in
theorem y_obeq_self {ops : Array Oper} {o : Oper} {a : Act} {S : World → Prop} {p q : Operand} (hw : Region.wanted o (yielded ops a.tmps) = true) (ho : o.op = .binOp .eql 30 p q 30) (x : Oj) (hx : a.eval p = x.val) (hy : a.eval q = x.val) : YieldsIf Tryd.prog ops S o (.bool true) a := by
  have := y_obeq (S := S) hw ho x x hx hy
  rwa [decide_eq_true rfl] at this
theorem gz0 (w : World) (hT : Tab w) : Calls Tryd.prog 9 #[sv z512, .int .i64 4] w fun e w' => e = .returned (.tuple #[oz.val, .int .i64 150]) ∧ Below w.heap.size w w' :=
  cget_no z512 (by unfold z512; exact List.length_replicate) 4 150 w hT (.inr (.inl ⟨by decide, z512_sum, rfl⟩))
set_option maxRecDepth 8000 in
theorem wpList_store_k1 {ops : Array Oper} {rest : List Oper} {o : Oper} {a : Act} {Q : Exit → Act → World → Prop} {W : World} (hgd : o.guard = none) (x y : Operand) (ho : o.op = .store KT x y) (b : Nat) (hb : b = W.heap.size) (hx : a.eval x = .pointer (some ⟨b, 9, none⟩)) (hy : a.eval y = .agg (kl k1).toArray)
    (h : wpList Tryd.prog ops Q rest (a.put o.dst undef) (W.alloc (.cells o2.cells.toArray OT))) : wpList Tryd.prog ops Q (o :: rest) a (W.alloc (.cells o1.cells.toArray OT)) := by
  subst hb
  refine wpList_store_mid hgd KT x y ho (Blk.new W OT _) hx hy (by rw [Oj.len]; decide) size25 (kl_one _) ?_
  rw [o2_cells, World.setRow_alloc_new]
  exact h
set_option maxRecDepth 8000 in
set_option maxHeartbeats 400000 in
theorem works_any (w : World) (hT : Tab w) : Calls Tryd.prog 4 #[] w fun e w' => e = .returned (.bool true) ∧ Below w.heap.size w w' := by
  have hz1 := z34
  have hz2 := z45
  have hbl := oz_len
  have HT := Lib.hid (hT.alloc (.cells #[.int .i64 6, .int .i64 7, .int .i64 2, .int .i64 0, .int .i64 0, .int .i64 (-1)] KT))
  have HK := Lib.hid (Blk.new w KT #[.int .i64 6, .int .i64 7, .int .i64 2, .int .i64 0, .int .i64 0, .int .i64 (-1)])
  have HB := Lib.hid ((Below.refl w.heap.size w).alloc (Nat.le_refl _) (.cells #[.int .i64 6, .int .i64 7, .int .i64 2, .int .i64 0, .int .i64 0, .int .i64 (-1)] KT))
  have M1 := Lib.hid True.intro
  have N1 := Lib.hid True.intro
  have HA := Lib.hid (show (Tryd.prog.info? SE).map (·.size) = some (bv (sealN (obs o2))).toArray.size by rw [List.size_toArray, bv_length, sealed_len]; exact size45)
  have HO := Lib.hid (And.intro (show (bv z512).toArray.size = (bv (sealN (obs o2))).toArray.size by rw [List.size_toArray, List.size_toArray, bv_length, bv_length, sealed_len]; rfl) True.intro)
  clear hT
  go_enter Tryd.func4, Tryd.ntmps4
  go_wp2_with (first
    | (go_at_call 5; refine (pk0 _ HT.out).mono ?_; rintro e w1 ⟨v, rfl, ho, hb⟩; obtain ⟨D, cp, rfl, hcp, hD0, hDl, hrd, -⟩ := own_cell (by decide) ho; have B1 := Lib.hid (HB.out.trans (hb.mono HB.out.size)); have T1 := Lib.hid (HT.out.below hb); have K1 := Lib.hid (Blk.keep HK.out hb); have D1 := Lib.hid hrd; clear ho hb hrd)
    | (go_at_call 7; refine (gk0 _ _ _ T1.out hcp D1.out).mono ?_; rintro e w2 ⟨rfl, hb⟩; have B2 := Lib.hid (B1.out.trans (hb.mono B1.out.size)); have T2 := Lib.hid (T1.out.below hb); have K2 := Lib.hid (Blk.keep K1.out hb); have D2 := Lib.hid (D1.out.below hb); clear hb)
    | (refine wpList_yields (S := fun _ => True) (y_build2 (.int .i64 1) (.int .i64 3) (by rfl) (by rfl) built44b) trivial ?_)
    | (show wpList _ _ _ ({ dst := none, op := .store OT (.tmp 6) (.tmp 24), type := _, pos := _, after := _, guard := _ } :: _) _ _; refine wpList_store_new rfl OT (.tmp 6) (.tmp 24) rfl (w2.heap.size + 1) (by simp) rfl o1.cells.toArray oz.cells.toArray rfl (by rw [List.size_toArray, Oj.len]; exact size34) (by simp only [List.size_toArray, Oj.len]) (Oj.allOne _) ?_)
    | (show wpList _ _ _ ({ dst := none, op := .store KT (.tmp 27) (.tmp 25), type := _, pos := _, after := _, guard := _ } :: _) _ _; refine wpList_store_k1 rfl (.tmp 27) (.tmp 25) rfl (w2.heap.size + 1) (by simp) rfl rfl ?_)
    | (show wpList _ _ _ ({ dst := some 29, op := .load OT (.tmp 6), type := _, pos := _, after := _, guard := _ } :: _) _ _; refine wpList_yields (S := fun w' => ObAt w' (w2.heap.size + 1) 0 o2) (y_ob (by rfl) (.tmp 6) (by rfl) (w2.heap.size + 1) 0 (by rfl) o2 (fun _ h => h)) (Blk.ob (Blk.new_of _ OT o2.cells.toArray (by simp))) ?_)
    | (go_at_call 8; refine (cput_yes o2 4 _ ((T2.out.alloc _).alloc _) o2_ok o2_fit).mono ?_; rintro e w3 ⟨rfl, hb⟩; have hs2 := B2.out.size; have B3 := Lib.hid (((B2.out.alloc hs2 _).alloc (by simp; omega) _).trans (hb.mono (by simp; omega))); have T3 := Lib.hid (((T2.out.alloc _).alloc _).below hb); have K3 := Lib.hid (Blk.keep (Blk.alloc (Blk.alloc K2.out _) _) hb); have G3 := Lib.hid (Blk.keep (Blk.alloc (Blk.new w2 KT #[.int .i64 6, .int .i64 7, .int .i64 2, .int .i64 0, .int .i64 0, .int .i64 (-1)]) _) hb); have O3 := Lib.hid (Blk.keep (Blk.new_of _ OT o2.cells.toArray (g := w2.heap.size + 1) (by simp)) hb); have D3 := Lib.hid (((D2.out.alloc _).alloc _).below hb); clear hb hs2)
    | (show wpList _ _ _ ({ dst := none, op := .store SE (.tmp 7) (.tmp 31), type := _, pos := _, after := _, guard := _ } :: _) _ _; refine wpList_store_new rfl SE (.tmp 7) (.tmp 31) rfl w3.heap.size rfl rfl (bv (sealN (obs o2))).toArray (bv z512).toArray rfl HA.out HO.out.1 (bv_all _) ?_)
    | (show wpList _ _ _ ({ dst := some 34, op := .load SE (.tmp 7), type := _, pos := _, after := _, guard := _ } :: _) _ _; refine wpList_yields (S := fun w' => w'.rangeAt w3.heap.size 0 (bv (sealN (obs o2)))) (y_sec (by rfl) (.tmp 7) (by rfl) w3.heap.size 0 (by rfl) _ (sealed_len o2) (fun _ h => h)) (rd_range (rd_blk (Blk.new w3 SE _))) ?_)
    | (go_at_call 9; clear M1; refine (gs0 _ (T3.out.alloc _)).mono ?_; rintro e w4 ⟨rfl, hb⟩; have hs2 := B3.out.size; have B4 := Lib.hid ((B3.out.alloc hs2 _).trans (hb.mono (by simp; omega))); have T4 := Lib.hid ((T3.out.alloc _).below hb); have K4 := Lib.hid (Blk.keep (Blk.alloc K3.out _) hb); have G4 := Lib.hid (Blk.keep (Blk.alloc G3.out _) hb); have O4 := Lib.hid (Blk.keep (Blk.alloc O3.out _) hb); have D4 := Lib.hid ((D3.out.alloc _).below hb); clear hb hs2)
    | (show wpList _ _ _ ({ dst := none, op := .store OT (.tmp 9) (.tmp 36), type := _, pos := _, after := _, guard := _ } :: _) _ _; refine wpList_store_new rfl OT (.tmp 9) (.tmp 36) rfl w4.heap.size rfl rfl o2.cells.toArray oz.cells.toArray rfl (by rw [List.size_toArray, Oj.len]; exact size34) (by simp only [List.size_toArray, Oj.len]) (Oj.allOne _) ?_)
    | (refine wpList_yields (S := fun _ => True) (y_build (by rfl) (by rfl) built45) trivial ?_)
    | (go_at_call 9; refine (gz0 _ (T4.out.alloc _)).mono ?_; rintro e w5 ⟨rfl, hb⟩; have hs2 := B4.out.size; have B5 := Lib.hid (((B4.out.alloc hs2 _).trans (hb.mono (by simp; omega)))); have K5 := Lib.hid (Blk.alloc (Blk.keep (Blk.alloc K4.out _) hb) (.cells oz.cells.toArray OT)); have G5 := Lib.hid (Blk.alloc (Blk.keep (Blk.alloc G4.out _) hb) (.cells oz.cells.toArray OT)); have O5 := Lib.hid (Blk.ob (Blk.alloc (Blk.keep (Blk.alloc O4.out _) hb) (.cells oz.cells.toArray OT))); have Q5 := Lib.hid (Blk.ob (Blk.alloc (Blk.keep (Blk.new w4 OT o2.cells.toArray) hb) (.cells oz.cells.toArray OT))); have D5 := Lib.hid ((((D4.out.alloc _).below hb)).alloc (.cells oz.cells.toArray OT)); have B6 := Lib.hid (B5.out.alloc B5.out.size (.cells oz.cells.toArray OT)); clear hb hs2)
    | (show wpList _ _ _ ({ dst := none, op := .store OT (.tmp 11) (.tmp 41), type := _, pos := _, after := _, guard := _ } :: _) _ _; refine wpList_store_new rfl OT (.tmp 11) (.tmp 41) rfl w5.heap.size rfl rfl oz.cells.toArray oz.cells.toArray rfl (by rw [List.size_toArray, Oj.len]; exact size34) rfl (Oj.allOne _) ?_; obtain ⟨c0, c1, c2, c3, c4, c5⟩ := Blk.six K5.out; obtain ⟨d0, d1, d2, d3, d4, d5⟩ := Blk.six G5.out; obtain ⟨_, _, e6, b6⟩ := D5.out 0 (by decide); obtain ⟨_, _, e7, b7⟩ := D5.out 12 (by decide); injection e6 with e6; injection e6 with e61 e62; injection e7 with e7; injection e7 with e71 e72; subst e61 e62 e71 e72))
  obtain ⟨W, hW⟩ : ∃ W, W = w5.alloc (.cells oz.cells.toArray 30) := ⟨_, rfl⟩
  have b6' : W.cell? ⟨D, 0, none⟩ = some (.int .u8 6) := by rw [hW]; exact b6
  have b7' : W.cell? ⟨D, 12, none⟩ = some (.int .u8 255) := by
    have h : (kbs k0)[12]? = some 255 := by kernel_rfl
    rw [hW]
    have := b7
    have e : (kbs k0)[12]'(by decide) = 255 := by have := List.getElem?_eq_some_iff.1 h; exact this.2
    rw [e] at this
    simpa using this
  rw [← hW] at c0 c1 c2 c3 c4 c5 d0 d1 d2 d3 d4 d5
  have O6 := Lib.hid (show ObAt W (w2.heap.size + 1) 0 o2 from hW ▸ O5.out)
  have Q6 := Lib.hid (show ObAt W w4.heap.size 0 o2 from hW ▸ Q5.out)
  have B7 := Lib.hid (show Below w.heap.size w W from hW ▸ B6.out)
  rw [← hW]
  clear hW b6 b7 O5 Q5 B6 D5 G5 K5 B5 hbl hz1 hz2 T4 K4 G4 O4 D4 B4 T3 K3 G3 O3 D3 B3 HA HO HT HK HB T1 K1 D1 B1 T2 K2 D2 B2
  clear hcp hD0 hDl N1
  go_wp2_with (first
    | (go_at_call 6; refine (cnum_any _ _).mono ?_; rintro e y ⟨rfl, rfl⟩)
    | (show wpList _ _ _ ({ dst := some 78, op := .load OT (.tmp 9), type := _, pos := _, after := _, guard := _ } :: _) _ _; refine wpList_yields (S := fun w' => ObAt w' w4.heap.size 0 o2) (y_ob (by rfl) (.tmp 9) (by rfl) w4.heap.size 0 (by rfl) o2 (fun _ h => h)) Q6.out ?_)
    | (show wpList _ _ _ ({ dst := some 79, op := .load OT (.tmp 6), type := _, pos := _, after := _, guard := _ } :: _) _ _; refine wpList_yields (S := fun w' => ObAt w' (w2.heap.size + 1) 0 o2) (y_ob (by rfl) (.tmp 6) (by rfl) (w2.heap.size + 1) 0 (by rfl) o2 (fun _ h => h)) O6.out ?_)
    | (show wpList _ _ _ ({ dst := some 80, op := .binOp .eql OT (.tmp 78) (.tmp 79) OT, type := _, pos := _, after := _, guard := _ } :: _) _ _; refine wpList_yields (S := fun _ => True) (y_obeq_self (by rfl) (by rfl) o2 (by rfl) (by rfl)) trivial ?_))
  go_ret
  exact ⟨rfl, B7.out⟩
end Go.Proofs.YtfclkkbmgclfgaaDoor
namespace Go.Proofs.YtfclkkbmgclfgaaDoor
open Go.ChangeShapes Go.WideShapes Go.ChangeAt Go.RowKit
section
variable {H : Type} {enc : TypeId × Value → H} {W : World} {base : Nat} {spare : Nat → Bool} {held : Bool} {fuel : Nat}
set_option maxRecDepth 8000 in
theorem wf_v {n : Int} (h : (Lit.int .i64 n).wf = true) : -9223372036854775808 ≤ n ∧ n ≤ 9223372036854775807 := by
  have hmin : IntKind.i64.min = -9223372036854775808 := rfl
  have hmax : IntKind.i64.max = 9223372036854775807 := rfl
  simp only [Lit.wf, Bool.and_eq_true, decide_eq_true_eq] at h
  omega
def Ky.vb (y : Ky) : Prop := -9223372036854775808 ≤ y.v ∧ y.v ≤ 9223372036854775807
set_option maxRecDepth 100000 in
theorem key_cellsv {cs : List Value} {x : DataW H × List MemPlace} (h : DataW.trod enc Tryd.prog W base spare held fuel 26 cs = some x) : ∃ y : Ky, cs = [.int .i64 y.k, .int .i64 y.o, .int .i64 y.c, .int .i64 y.l, .int .i64 y.r, .int .i64 y.v] ∧ y.vb := by
  obtain ⟨xs, n, _, hx1, hl, hn, hel⟩ := DataW.trod_struct Tryd.underlying26 h
  have hl6 : cs.length = 6 := hl.trans (by kernel_rfl)
  match cs, hl6 with
  | [c0, c1, c2, c3, c4, c5], _ =>
    match xs, hn with
    | [y0, y1, y2, y3, y4, y5], _ =>
      obtain ⟨n0, r0, _, _⟩ := DataW.trod_int Tryd.underlying23 (show DataW.trod enc Tryd.prog W base spare held n 23 [c0] = some y0 from hel 0 _ rfl)
      obtain ⟨n1, r1, _, _⟩ := DataW.trod_int Tryd.underlying3 (show DataW.trod enc Tryd.prog W base spare held n 3 [c1] = some y1 from hel 1 _ rfl)
      obtain ⟨n2, r2, _, _⟩ := DataW.trod_int Tryd.underlying2 (show DataW.trod enc Tryd.prog W base spare held n 2 [c2] = some y2 from hel 2 _ rfl)
      obtain ⟨n3, r3, _, _⟩ := DataW.trod_int Tryd.underlying2 (show DataW.trod enc Tryd.prog W base spare held n 2 [c3] = some y3 from hel 3 _ rfl)
      obtain ⟨n4, r4, _, _⟩ := DataW.trod_int Tryd.underlying24 (show DataW.trod enc Tryd.prog W base spare held n 24 [c4] = some y4 from hel 4 _ rfl)
      obtain ⟨n5, r5, w5, f5⟩ := DataW.trod_int Tryd.underlying2 (show DataW.trod enc Tryd.prog W base spare held n 2 [c5] = some y5 from hel 5 _ rfl)
      simp only [List.cons.injEq, and_true] at r0 r1 r2 r3 r4 r5
      subst r0 r1 r2 r3 r4 r5
      exact ⟨⟨n0, n1, n2, n3, n4, n5⟩, rfl, wf_v (by first | exact f5 | exact w5)⟩
set_option maxRecDepth 8000 in
/-- a key that came in -/
theorem open_keyv {r : Reach} {b0 : Nat} {v : Value} {d : DataW H} {p : List MemPlace} (hv : Value.okWide Tryd.prog W r b0 26 v) (h : DataW.Trod enc Tryd.prog W base spare held 26 v d p) : ∃ y : Ky, v = y.val ∧ y.vb := by
  obtain ⟨cs, rfl, _⟩ := okWide_struct Tryd.underlying26 hv
  obtain ⟨f, hf⟩ := h
  obtain ⟨y, hy, hb⟩ := key_cellsv hf
  refine ⟨y, ?_, hb⟩
  obtain ⟨l⟩ := cs
  simp only [Value.cells] at hy
  subst hy
  rfl
end
set_option maxRecDepth 8000 in
theorem kbs_lit (kb rb : UInt8) (on cn ln : Nat) (v : Int) : kbs ⟨kb.toNat, on, cn, ln, rb.toNat, v⟩ = ((([kb, rb] ++ bytesLE 2 on) ++ bytesLE 4 cn) ++ bytesLE 4 ln) ++ bytesLE 8 (un v) := by
  simp [kbs]
theorem str26 {w : World} {A : Option Addr} {n c : Nat} {l : List UInt8} (hn : l.length = n) (hr : Rd w A l) : (convert 31 9 (.slice A n c)).run Tryd.prog w = .ok (.string (st l)) w :=
  run_str w Tryd.underlying31 Tryd.underlying5 Tryd.underlying9 hn hr
end Go.Proofs.YtfclkkbmgclfgaaDoor

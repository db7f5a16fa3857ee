/- pages: Read, Write, Clear, Copy, as ask answers. -/
import Derived.Test.YtedlacdijkggjaaDoorGChg
namespace Go.Proofs.YtedlacdijkggjaaDoor
open Go.RowKit
theorem Tab.fr1 {w W : World} {g : Nat} (h : Tab w) (hg : 0 ≠ g) (hf : Fr (fun k => k = g) w W) : Tab W := fun k hk j u hu => (World.cell?_of_block (a := ⟨0, k * 7 + j, none⟩) (hf.block _ h.lt hg)).trans (h k hk j u hu)
theorem y_kyG {ops : Array Oper} {o : Oper} {a : Act} {S : World → Prop} (hw : Region.wanted o (yielded ops a.tmps) = true) (x : Operand) (ho : o.op = .load 30 x) (g off : Nat) (hx : a.eval x = .pointer (some ⟨g, off, none⟩)) (k : Ky) (hS : ∀ w, S w → KeyAt w g off k) : YieldsIf Tryd.prog ops S o k.val a :=
  yieldsIf_load_mid hw 30 x ho g off hx (kl k) _ (fun w h j v hj => by
    obtain ⟨h0, h1, h2, h3, h4, h5⟩ := hS w h
    match j, hj with
    | 0, hj => rw [← Option.some.inj hj]; exact h0
    | 1, hj => rw [← Option.some.inj hj]; exact h1
    | 2, hj => rw [← Option.some.inj hj]; exact h2
    | 3, hj => rw [← Option.some.inj hj]; exact h3
    | 4, hj => rw [← Option.some.inj hj]; exact h4
    | 5, hj => rw [← Option.some.inj hj]; exact h5) Tryd.underlying30 rfl size30
theorem Blk.katG {w : World} {g : Nat} {t : TypeId} {x : Ky} (h : Blk w g t (kc x.k x.o x.c x.l x.r x.v)) : KeyAt w g 0 x := ⟨h.cell 0, h.cell 1, h.cell 2, h.cell 3, h.cell 4, h.cell 5⟩
/-- blocks known whole, all made by then -/
structure Kb (w : World) (bs : List (Nat × TypeId × Array Value)) (N1 : Nat) (W : World) : Prop where
  bel : Below w.heap.size w W
  n0 : w.heap.size ≤ N1
  sz : N1 ≤ W.heap.size
  blk : ∀ b ∈ bs, b.1 < N1 ∧ Blk W b.1 b.2.1 b.2.2
section
variable {w W W' : World} {bs : List (Nat × TypeId × Array Value)} {N1 g : Nat} {t : TypeId} {c : Array Value}
theorem Kb.below (h : Kb w bs N1 W) (hb : Below W.heap.size W W') : Kb w bs N1 W' := ⟨h.bel.trans (hb.mono h.bel.size), h.n0, Nat.le_trans h.sz hb.size, fun b hm => ⟨(h.blk b hm).1, (h.blk b hm).2.keep hb⟩⟩
theorem Kb.alloc (h : Kb w bs N1 W) (o : Obj) : Kb w bs N1 (W.alloc o) := h.below ((Below.refl _ _).alloc (Nat.le_refl _) _)
theorem Kb.drew (h : Kb w bs N1 W) : Kb w bs N1 W.drew := h.below (below_drew (Below.refl _ _))
theorem Kb.set (h : Kb w bs N1 W) (hg : N1 ≤ g) (c : Array Value) : Kb w bs N1 (W.setRow g c) :=
  ⟨below_setRow h.bel (Nat.le_trans h.n0 hg) c, h.n0, by have := h.sz; simpa [World.setRow] using this, fun b hm => ⟨(h.blk b hm).1, Blk.row_far (h.blk b hm).2 (by have := (h.blk b hm).1; omega) c⟩⟩
theorem Kb.more (h : Kb w bs N1 W) (hb : Blk W g t c) : Kb w ((g, t, c) :: bs) W.heap.size W := ⟨h.bel, Nat.le_trans h.n0 h.sz, Nat.le_refl _, fun b hm => by
  rcases List.mem_cons.1 hm with rfl | hm
  · exact ⟨hb.lt, hb⟩
  · exact ⟨Nat.lt_of_lt_of_le (h.blk b hm).1 h.sz, (h.blk b hm).2⟩⟩
end
set_option maxRecDepth 8000 in
theorem step_alloc72 {ops : Array Oper} {o : Oper} {a : Act} {w : World} {K : Act → World → Prop} {Q : Exit → Act → World → Prop} {E : Prop} (hgd : o.guard = none) (ho : o.op = .alloc 72)
    (h : ∀ g w', g = w.heap.size → w' = w.alloc (.cells zpgc.toArray 72) → K (a.put o.dst (.pointer (some ⟨g, 0, none⟩))) w') :
    if Region.wanted o (yielded ops a.tmps) = true then Oper.wp Tryd.prog o a w K Q else E := by
  have hw : Region.wanted o (yielded ops a.tmps) = true := by simp [Region.wanted, hgd]
  rw [if_pos hw]
  have hz := z72
  unfold Oper.wp
  simp [execOp, ho, Instr.alloc, hz, Result.andThen]
  exact h _ _ rfl rfl
set_option maxRecDepth 8000 in
theorem step_store_pg {ops : Array Oper} {o : Oper} {a : Act} {w : World} {K : Act → World → Prop} {Q : Exit → Act → World → Prop} {E : Prop} {g : Nat} (hb : Blk w g 72 zpgc.toArray) (hgd : o.guard = none) (x y : Operand) (ho : o.op = .store 72 x y) (hx : a.eval x = .pointer (some ⟨g, 0, none⟩)) (l : List Value) (hy : a.eval y = .agg l.toArray) (hl : l.length = 165) (h1 : ∀ u ∈ l, u.oneCell' = true)
    (h : K (a.put o.dst undef) (w.setRow g l.toArray)) : if Region.wanted o (yielded ops a.tmps) = true then Oper.wp Tryd.prog o a w K Q else E := by
  rw [if_pos (by simp [Region.wanted, hgd])]
  refine wp_store_row _ x y ho g l.toArray hx hy _ zpgc.toArray hb (by rw [List.size_toArray, hl]; exact size72) (by rw [List.size_toArray, List.size_toArray, hl, zpgc_len]) (all_one h1) ?_
  exact h
/-- a drawn region that makes one block: what follows is said once -/
theorem region_pg {P : Program} {id : Nat} {ops : Array Oper} {Q : Exit → Act → World → Prop} {a : Act} {w : World} (F : Act → Nat → Act) (Fx : Nat → World → Prop) (H : (Code.region id ops true).wp P (fun e a' w' => ∃ g, e = .normal ∧ a' = F a g ∧ Fx g w') a w) (K : ∀ g W, Fx g W → Q .normal (F a g) W) : (Code.region id ops true).wp P Q a w :=
  Code.wp_mono (fun e a' w' ⟨g, e1, e2, e3⟩ => by subst e1 e2; exact K g w' e3) H
set_option maxRecDepth 100000 in
set_option maxHeartbeats 2000000 in
theorem nread_err {w : World} {P : Value} (x : Ky) (a n : Int) (m : Int) (hm : m ≠ 0) (hask : ∀ W, Below w.heap.size w W → Calls Tryd.prog 23 #[P, x.val, .bool false, .agg (spn a n)] W fun e w' => e = .returned (.tuple #[.agg (zpgc).toArray, .int .i64 m]) ∧ Below W.heap.size W w') :
    Calls Tryd.prog 12 #[P, x.val, .int .i64 a, .int .i64 n] w fun e w' => e = .returned (.tuple #[.string (st []), .int .i64 m]) ∧ Below w.heap.size w w' := by
  have HASK := Lib.hid hask
  have dm : (m != 0) = true := by simpa using hm
  clear hask hm
  have hz := z72
  have hbl := zpgc_len
  have HB0 := Lib.hid ((Below.refl w.heap.size w).alloc (Nat.le_refl _) (.cells (kc x.k x.o x.c x.l x.r x.v) 30))
  have HK0 := Lib.hid (Blk.new w 30 (kc x.k x.o x.c x.l x.r x.v))
  obtain ⟨c0, c1, c2, c3, c4, c5⟩ := HK0.out.six
  go_enter Tryd.func12, Tryd.ntmps12
  go_wp2_with (first
    | (go_at_call 23; refine (HASK.out _ HB0.out).mono ?_; rintro e w1 ⟨rfl, b1⟩; have HB1 := Lib.hid ((HB0.out.trans (b1.mono HB0.out.size)).alloc (Nat.le_trans HB0.out.size b1.size) (.cells (zpgc).toArray 72)); clear b1)
    | (show wpList _ _ _ ({ dst := none, op := .store _ (.tmp 10) (.tmp 19), type := _, pos := _, after := _, guard := _ } :: _) _ _; refine wpList_store_new (l := zpgc) (l0 := zpgc) (ty := 72) rfl (.tmp 10) (.tmp 19) (by rfl) _ rfl (by rfl) (by rfl) (by rw [zpgc_len]; exact size72) rfl zpgc_one ?_))
  go_ret2
  exact ⟨rfl, HB1.out⟩
set_option maxRecDepth 100000 in
set_option maxHeartbeats 2000000 in
theorem nread_yes {w : World} {p : Nat} {q : Int} {u : Oj} (x : Ky) (a n : Nat) (hi : a + n ≤ 64) (hask : ∀ W, Below w.heap.size w W → Calls Tryd.prog 23 #[pv p, x.val, .bool false, .agg (spn (a : Int) (n : Int))] W fun e w' => e = .returned (.tuple #[.agg (pgc p q u).toArray, .int .i64 0]) ∧ Below W.heap.size W w') :
    Calls Tryd.prog 12 #[pv p, x.val, .int .i64 (a : Int), .int .i64 (n : Int)] w fun e w' => e = .returned (.tuple #[.string (st ((u.b.drop a).take n)), .int .i64 0]) ∧ Below w.heap.size w w' := by
  have HASK := Lib.hid hask
  have hsl := fun g => run_cut g 99 a n hi
  obtain ⟨s, hs⟩ : ∃ s, s = (u.b.drop a).take n := ⟨_, rfl⟩
  have hsn : s.length = n := by rw [hs]; exact cut_len u.hb hi
  rw [← hs]
  have HS := Lib.hid hs
  have HI := Lib.hid hi
  have HSN := Lib.hid hsn
  have s0 : -9223372036854775808 ≤ (a : Int) + (n : Int) := by omega
  have s1 : (a : Int) + (n : Int) ≤ 9223372036854775807 := by omega
  clear hask hi hs hsn
  have hz := z72
  have hbl := zpgc_len
  have HB0 := Lib.hid ((Below.refl w.heap.size w).alloc (Nat.le_refl _) (.cells (kc x.k x.o x.c x.l x.r x.v) 30))
  have HK0 := Lib.hid (Blk.new w 30 (kc x.k x.o x.c x.l x.r x.v))
  obtain ⟨c0, c1, c2, c3, c4, c5⟩ := HK0.out.six
  go_enter Tryd.func12, Tryd.ntmps12
  go_wp2_with (first
    | (go_at_call 23; refine (HASK.out _ HB0.out).mono ?_; rintro e w1 ⟨rfl, b1⟩; have HB1 := Lib.hid ((HB0.out.trans (b1.mono HB0.out.size)).alloc (Nat.le_trans HB0.out.size b1.size) (.cells (pgc p q u).toArray 72)); have hcv := run_str (P := Tryd.prog) (w1.alloc (.cells (pgc p q u).toArray 72)) Tryd.underlying50 Tryd.underlying5 Tryd.underlying9 (A := some (cutP w1.heap.size 99 a)) (c := 64 - a) HSN.out (HS.out ▸ rd_cut (by have := (Blk.new w1 72 (pgc p q u).toArray).pgo.bytes; rwa [Nat.zero_add] at this) u.hb a n HI.out); clear b1)
    | (show wpList _ _ _ ({ dst := none, op := .store _ (.tmp 10) (.tmp 19), type := _, pos := _, after := _, guard := _ } :: _) _ _; refine wpList_store_new (l := pgc p q u) (l0 := zpgc) (ty := 72) rfl (.tmp 10) (.tmp 19) (by rfl) _ rfl (by rfl) (by rfl) (by rw [pgc_len]; exact size72) (by rw [pgc_len, zpgc_len]) (pgc_one _ _ _) ?_))
  go_ret2
  exact ⟨rfl, HB1.out⟩
set_option maxRecDepth 100000 in
set_option maxHeartbeats 2000000 in
theorem nwrite_err {w : World} {P : Value} (x : Ky) (a : Int) (s : List UInt8) (m : Int) (hm : m ≠ 0) (hask : ∀ W, Below w.heap.size w W → Calls Tryd.prog 23 #[P, x.val, .bool true, .agg (spn a (s.length : Int))] W fun e w' => e = .returned (.tuple #[.agg (zpgc).toArray, .int .i64 m]) ∧ Below W.heap.size W w') :
    Calls Tryd.prog 13 #[P, x.val, .int .i64 a, .string (st s)] w fun e w' => e = .returned (.int .i64 m) ∧ Below w.heap.size w w' := by
  have HASK := Lib.hid hask
  have dm : (m != 0) = true := by simpa using hm
  have hsz := st_size s
  clear hask hm
  have hz := z72
  have hbl := zpgc_len
  have HB0 := Lib.hid ((((Below.refl w.heap.size w).alloc (Nat.le_refl _) (.cells (kc x.k x.o x.c x.l x.r x.v) 30)).alloc (by simp) (.cells #[.int .i64 a] 3)).alloc (by simp; omega) (.cells #[.string (st s)] 9))
  have HK0 := Lib.hid (((Blk.new w 30 (kc x.k x.o x.c x.l x.r x.v)).alloc (.cells #[.int .i64 a] 3)).alloc (.cells #[.string (st s)] 9))
  have HI0 := Lib.hid ((Blk.new_of (w.alloc (.cells (kc x.k x.o x.c x.l x.r x.v) 30)) 3 #[.int .i64 a] (g := w.heap.size + 1) (by simp)).alloc (.cells #[.string (st s)] 9))
  have HT0 := Lib.hid (Blk.new_of ((w.alloc (.cells (kc x.k x.o x.c x.l x.r x.v) 30)).alloc (.cells #[.int .i64 a] 3)) 9 #[.string (st s)] (g := w.heap.size + 1 + 1) (by simp))
  obtain ⟨c0, c1, c2, c3, c4, c5⟩ := HK0.out.six
  go_enter Tryd.func13, Tryd.ntmps13
  go_wp2_with (first
    | (go_at_call 23; refine (HASK.out _ HB0.out).mono ?_; rintro e w1 ⟨rfl, b1⟩; have HB1 := Lib.hid ((HB0.out.trans (b1.mono HB0.out.size)).alloc (Nat.le_trans HB0.out.size b1.size) (.cells zpgc.toArray 72)); clear b1)
    | (show wpList _ _ _ ({ dst := none, op := .store _ (.tmp 9) (.tmp 19), type := _, pos := _, after := _, guard := _ } :: _) _ _; refine wpList_store_new (l := zpgc) (l0 := zpgc) (ty := 72) rfl (.tmp 9) (.tmp 19) (by rfl) _ rfl (by rfl) (by rfl) (by rw [zpgc_len]; exact size72) rfl zpgc_one ?_))
  go_ret
  exact ⟨rfl, HB1.out⟩
set_option maxRecDepth 100000 in
set_option maxHeartbeats 4000000 in
theorem nwrite_yes {w : World} {base p : Nat} {A : Option Addr} {cap : Nat} {ps : List Nat} {os : List Oj} (h : StAt w base p A cap ps os) (hT : Tab w) {u : Oj} (x : Ky) (j : Nat) (hj : j < os.length) (hxo : x.o = (j : Int)) (a : Nat) (s : List UInt8) (hi : a + s.length ≤ 64) (hok : (layO u a s).ok os.length) (hask : ∀ W, Below w.heap.size w W → Calls Tryd.prog 23 #[pv p, x.val, .bool true, .agg (spn (a : Int) (s.length : Int))] W fun e w' => e = .returned (.tuple #[.agg (pgc p x.o u).toArray, .int .i64 0]) ∧ Below W.heap.size W w') :
    Calls Tryd.prog 13 #[pv p, x.val, .int .i64 (a : Int), .string (st s)] w fun e w' => e = .returned (.int .i64 0) ∧ StAt w' base p A cap ps (os.set j (layO u a s)) ∧ Fr (fun k => k ∈ ps) w w' := by
  have HASK := Lib.hid hask
  have HSS := Lib.hid h
  have HTT := Lib.hid hT
  have HLT := Lib.hid (fun (k : Nat) (hk : stHas p A ps k) => (h.lt k hk).2)
  have HJ := Lib.hid hj
  have HXO := Lib.hid hxo
  have HI := Lib.hid hi
  have HOK := Lib.hid hok
  have hsz := st_size s
  clear hask h hT hj hxo hi hok
  have hz := z72
  have hbl := zpgc_len
  have HB0 := Lib.hid ((((Below.refl w.heap.size w).alloc (Nat.le_refl _) (.cells (kc x.k x.o x.c x.l x.r x.v) 30)).alloc (by simp) (.cells #[.int .i64 (a : Int)] 3)).alloc (by simp; omega) (.cells #[.string (st s)] 9))
  have HK0 := Lib.hid (((Blk.new w 30 (kc x.k x.o x.c x.l x.r x.v)).alloc (.cells #[.int .i64 (a : Int)] 3)).alloc (.cells #[.string (st s)] 9))
  have HI0 := Lib.hid ((Blk.new_of (w.alloc (.cells (kc x.k x.o x.c x.l x.r x.v) 30)) 3 #[.int .i64 (a : Int)] (g := w.heap.size + 1) (by simp)).alloc (.cells #[.string (st s)] 9))
  have HT0 := Lib.hid (Blk.new_of ((w.alloc (.cells (kc x.k x.o x.c x.l x.r x.v) 30)).alloc (.cells #[.int .i64 (a : Int)] 3)) 9 #[.string (st s)] (g := w.heap.size + 1 + 1) (by simp))
  obtain ⟨c0, c1, c2, c3, c4, c5⟩ := HK0.out.six
  go_enter Tryd.func13, Tryd.ntmps13
  go_wp2_with (first
    | (go_at_call 23; refine (HASK.out _ HB0.out).mono ?_; rintro e w1 ⟨rfl, b1⟩; have HB1 := Lib.hid ((HB0.out.trans (b1.mono HB0.out.size)).alloc (Nat.le_trans HB0.out.size b1.size) (.cells (pgc p x.o u).toArray 72)); have HG1 := Lib.hid (Blk.new w1 72 (pgc p x.o u).toArray); have HI1 := Lib.hid ((HI0.out.keep b1).alloc (.cells (pgc p x.o u).toArray 72)); have HT1 := Lib.hid ((HT0.out.keep b1).alloc (.cells (pgc p x.o u).toArray 72)); have HGE := Lib.hid (show w.heap.size + 1 + 1 < w1.heap.size from Nat.lt_of_lt_of_le HT0.out.lt b1.size); clear b1)
    | (show wpList _ _ _ ({ dst := none, op := .store _ (.tmp 9) (.tmp 19), type := _, pos := _, after := _, guard := _ } :: _) _ _; refine wpList_store_new (l := pgc p x.o u) (l0 := zpgc) (ty := 72) rfl (.tmp 9) (.tmp 19) (by rfl) _ rfl (by rfl) (by rfl) (by rw [pgc_len]; exact size72) (by rw [pgc_len, zpgc_len]) (pgc_one _ _ _) ?_)
    | (go_at_call 24; refine (chg_write (HSS.out.below HB1.out) (HTT.out.below HB1.out) HG1.out (fun k hk => by have := HLT.out k hk; have := HGE.out; omega) (fun ht W hf => ht.fr1 (by have := HTT.out.lt; have := HGE.out; omega) hf) j HJ.out HXO.out a s HI.out _ _ HI1.out HT1.out (by have := HGE.out; omega) (by have := HGE.out; omega) HOK.out).mono ?_; rintro e w2 ⟨rfl, hs2, hf2⟩; have HS2 := Lib.hid hs2; have HF2 := Lib.hid ((Fr.of_below HB1.out : Fr (fun k => k ∈ ps) w _).then_ hf2 (fun i hi hs => hs.elim (fun e => by have := HGE.out; omega) id)); clear hs2 hf2))
  go_ret
  exact ⟨rfl, HS2.out, HF2.out⟩
set_option maxRecDepth 100000 in
set_option maxHeartbeats 4000000 in
theorem nclear_err {w : World} {P : Value} (x : Ky) (m : Int) (hm : m ≠ 0) (hask : ∀ W, Below w.heap.size w W → Calls Tryd.prog 23 #[P, x.val, .bool true, .agg (spn 0 64)] W fun e w' => e = .returned (.tuple #[.agg (zpgc).toArray, .int .i64 m]) ∧ Below W.heap.size W w') :
    Calls Tryd.prog 14 #[P, x.val] w fun e w' => e = .returned (.int .i64 m) ∧ Below w.heap.size w w' := by
  have HASK := Lib.hid hask
  have dm : (m != 0) = true := by simpa using hm
  clear hask hm
  have hz := z72
  have hbl := zpgc_len
  have HKB := Lib.hid (show Kb w [(w.heap.size, 30, kc x.k x.o x.c x.l x.r x.v)] (w.heap.size + 1) (w.alloc (.cells (kc x.k x.o x.c x.l x.r x.v) 30)) from ⟨(Below.refl w.heap.size w).alloc (Nat.le_refl _) (.cells (kc x.k x.o x.c x.l x.r x.v) 30), by omega, by simp, fun b hm => by
    obtain rfl := List.mem_singleton.1 hm
    exact ⟨Nat.lt_succ_self _, Blk.new w 30 _⟩⟩)
  obtain ⟨c0, c1, c2, c3, c4, c5⟩ := (Blk.new w 30 (kc x.k x.o x.c x.l x.r x.v)).six
  go_enter Tryd.func14, Tryd.ntmps14
  go_wp2_with fail
  refine region_pg (fun ac g9 => (((((((((ac.put (some 8) (P)).put (some 9) x.val).put (some 10) (.agg (spn 0 64))).put (some 11) (.tuple #[.agg (zpgc).toArray, .int .i64 m])).put (some 7) (.tuple #[.agg (zpgc).toArray, .int .i64 m])).put (some 12) (.agg (zpgc).toArray)).put (some 13) (.int .i64 m)).put (some 5) (.pointer (some ⟨g9, 0, none⟩))).put (some 6) (.int .i64 m))) (fun g9 W => Kb w [(w.heap.size, 30, kc x.k x.o x.c x.l x.r x.v)] (w.heap.size + 1) W ∧ Blk W g9 72 (zpgc).toArray ∧ w.heap.size + 1 ≤ g9) ?mkC ?restC
  case mkC =>
    refine wp_region_only (S := fun W => KeyAt W w.heap.size 0 x) (by kernel_rfl) (Blk.katG (HKB.out.drew.blk _ List.mem_cons_self).2) (fun hHeld => ?_)
    refine wpAnyH_take (i := 0) (v := ?v1) rfl (by kernel_rfl) (by kernel_rfl) (by kernel_rfl) (fun _ _ _ h => h) (Or.inl ⟨by rfl, ?hy1⟩) hHeld ?rest1
    case hy1 =>
      intro w' hSw
      try dsimp only at hSw
      go_simp
      first | done | with_reducible rfl
    try simp only [Act.put, List.getElem_toArray, List.getElem_cons_zero, List.setIfInBounds_toArray, List.set_cons_zero, List.set_cons_succ]
    refine wpAnyH_take (i := 1) rfl (by kernel_rfl) (by kernel_rfl) (by kernel_rfl) (fun _ _ _ h => h) (y_kyG (by rfl) (.tmp 3) (by rfl) w.heap.size 0 (by rfl) x (fun _ h => h)) hHeld ?_
    try simp only [Act.put, List.getElem_toArray, List.getElem_cons_succ, List.getElem_cons_zero, List.setIfInBounds_toArray, List.set_cons_zero, List.set_cons_succ]
    refine wpAnyH_ready (rs := [2, 7]) (by kernel_rfl) (by simp) ?_
    refine AllReadyH.cons (by rfl) (fun K hK => ?_) (AllReadyH.cons (by rfl) (fun K hK => ?_) AllReadyH.nil)
    · go_simp
      refine (whole_any _).mono ?_
      rintro e_ rw1 ⟨rfl, c_⟩
      have RK1 := Lib.hid (HKB.out.drew.below c_)
      clear c_ hHeld
      go_wp2_with fail
      refine hK.out _ _ (Blk.katG (RK1.out.blk _ List.mem_cons_self).2) (fun hHeld => ?_)
      clear hK K
      try simp only [Act.put, List.getElem_toArray, List.getElem_cons_succ, List.getElem_cons_zero, List.setIfInBounds_toArray, List.set_cons_zero, List.set_cons_succ]
      refine wpAnyH_ready (rs := [3, 7]) (by kernel_rfl) (by simp) ?_
      refine AllReadyH.cons (by rfl) (fun K hK => ?_) (AllReadyH.cons (by rfl) (fun K hK => ?_) AllReadyH.nil)
      · go_simp
        refine (HASK.out _ RK1.out.bel).mono ?_
        rintro e_ rw2 ⟨rfl, c_⟩
        have RK2 := Lib.hid (RK1.out.below c_)
        clear c_ hHeld
        go_wp2_with fail
        refine hK.out _ _ (Blk.katG (RK2.out.blk _ List.mem_cons_self).2) (fun hHeld => ?_)
        clear hK K
        try simp only [Act.put, List.getElem_toArray, List.getElem_cons_succ, List.getElem_cons_zero, List.setIfInBounds_toArray, List.set_cons_zero, List.set_cons_succ]
        refine wpAnyH_take (i := 4) (v := ?v2) rfl (by kernel_rfl) (by kernel_rfl) (by kernel_rfl) (fun _ _ _ h => h) (Or.inl ⟨by rfl, ?hy2⟩) hHeld ?rest2
        case hy2 =>
          intro w' hSw
          try dsimp only at hSw
          go_simp
          first | done | with_reducible rfl
        try simp only [Act.put, List.getElem_toArray, List.getElem_cons_succ, List.getElem_cons_zero, List.setIfInBounds_toArray, List.set_cons_zero, List.set_cons_succ]
        refine wpAnyH_take (i := 5) (v := ?v3) rfl (by kernel_rfl) (by kernel_rfl) (by kernel_rfl) (fun _ _ _ h => h) (Or.inl ⟨by rfl, ?hy3⟩) hHeld ?rest3
        case hy3 =>
          intro w' hSw
          try dsimp only at hSw
          go_simp
          first | done | with_reducible rfl
        try simp only [Act.put, List.getElem_toArray, List.getElem_cons_succ, List.getElem_cons_zero, List.setIfInBounds_toArray, List.set_cons_zero, List.set_cons_succ]
        refine wpAnyH_take (i := 6) (v := ?v4) rfl (by kernel_rfl) (by kernel_rfl) (by kernel_rfl) (fun _ _ _ h => h) (Or.inl ⟨by rfl, ?hy4⟩) hHeld ?rest4
        case hy4 =>
          intro w' hSw
          try dsimp only at hSw
          go_simp
          first | done | with_reducible rfl
        try simp only [Act.put, List.getElem_toArray, List.getElem_cons_succ, List.getElem_cons_zero, List.setIfInBounds_toArray, List.set_cons_zero, List.set_cons_succ]
        refine wpAnyH_ready (rs := [7]) (by kernel_rfl) (by simp) ?_
        refine AllReadyH.cons (by rfl) (fun K hK => ?_) AllReadyH.nil
        · refine step_alloc72 rfl (by rfl) ?_
          intro g9 rw3 hg hw
          have RK3 : Hid (Kb w _ _ rw3) := Lib.hid (by subst hw; exact RK2.out.alloc _)
          have HGE9 : Hid (w.heap.size + 1 ≤ g9) := Lib.hid (by subst hg; exact RK2.out.sz)
          have RG3 : Hid (Blk rw3 g9 72 zpgc.toArray) := Lib.hid (by subst hw hg; exact Blk.new _ _ _)
          clear hg hw hHeld
          refine hK.out _ _ (Blk.katG (RK3.out.blk _ List.mem_cons_self).2) (fun hHeld => ?_)
          clear hK K
          try simp only [Act.put, List.getElem_toArray, List.getElem_cons_succ, List.getElem_cons_zero, List.setIfInBounds_toArray, List.set_cons_zero, List.set_cons_succ]
          refine wpAnyH_ready (rs := [8]) (by kernel_rfl) (by simp) ?_
          refine AllReadyH.cons (by rfl) (fun K hK => ?_) AllReadyH.nil
          refine step_store_pg RG3.out rfl (.tmp 5) (.tmp 12) (by rfl) (by rfl) (zpgc) (by rfl) zpgc_len zpgc_one ?_
          have SK := Lib.hid (RK3.out.set HGE9.out (zpgc).toArray)
          have SG := Lib.hid (Blk.setRow RG3.out (zpgc).toArray)
          generalize rw3.setRow g9 (zpgc).toArray = SW at SK SG ⊢
          refine hK.out _ _ (Blk.katG (SK.out.blk _ List.mem_cons_self).2) (fun hHeld => ?_)
          clear hK K
          try simp only [Act.put, List.getElem_toArray, List.getElem_cons_succ, List.getElem_cons_zero]
          refine wpAnyH_take (i := 9) (v := ?v5) rfl (by kernel_rfl) (by kernel_rfl) (by kernel_rfl) (fun _ _ _ h => h) (Or.inl ⟨by rfl, ?hy5⟩) hHeld ?rest5
          case hy5 =>
            intro w' hSw
            try dsimp only at hSw
            go_simp
            first | done | with_reducible rfl
          try simp only [Act.put, List.getElem_toArray, List.getElem_cons_succ, List.getElem_cons_zero, List.setIfInBounds_toArray, List.set_cons_zero, List.set_cons_succ]
          refine wpAnyH_done (by kernel_rfl) ?_ _
          refine OnlyN.normal ?_
          exact ⟨g9, rfl, rfl, SK.out, SG.out, HGE9.out⟩
      · refine step_alloc72 rfl (by rfl) ?_
        intro g9 rw4 hg hw
        have RK4 : Hid (Kb w _ _ rw4) := Lib.hid (by subst hw; exact RK1.out.alloc _)
        have HGE9 : Hid (w.heap.size + 1 ≤ g9) := Lib.hid (by subst hg; exact RK1.out.sz)
        have RG4 : Hid (Blk rw4 g9 72 zpgc.toArray) := Lib.hid (by subst hw hg; exact Blk.new _ _ _)
        clear hg hw hHeld
        refine hK.out _ _ (Blk.katG (RK4.out.blk _ List.mem_cons_self).2) (fun hHeld => ?_)
        clear hK K
        try simp only [Act.put, List.getElem_toArray, List.getElem_cons_succ, List.getElem_cons_zero, List.setIfInBounds_toArray, List.set_cons_zero, List.set_cons_succ]
        refine wpAnyH_ready (rs := [3]) (by kernel_rfl) (by simp) ?_
        refine AllReadyH.cons (by rfl) (fun K hK => ?_) AllReadyH.nil
        · go_simp
          refine (HASK.out _ RK4.out.bel).mono ?_
          rintro e_ rw5 ⟨rfl, c_⟩
          have RK5 := Lib.hid (RK4.out.below c_)
          have RG5 := Lib.hid (RG4.out.keep c_)
          clear c_ hHeld
          go_wp2_with fail
          refine hK.out _ _ (Blk.katG (RK5.out.blk _ List.mem_cons_self).2) (fun hHeld => ?_)
          clear hK K
          try simp only [Act.put, List.getElem_toArray, List.getElem_cons_succ, List.getElem_cons_zero, List.setIfInBounds_toArray, List.set_cons_zero, List.set_cons_succ]
          refine wpAnyH_take (i := 4) (v := ?v6) rfl (by kernel_rfl) (by kernel_rfl) (by kernel_rfl) (fun _ _ _ h => h) (Or.inl ⟨by rfl, ?hy6⟩) hHeld ?rest6
          case hy6 =>
            intro w' hSw
            try dsimp only at hSw
            go_simp
            first | done | with_reducible rfl
          try simp only [Act.put, List.getElem_toArray, List.getElem_cons_succ, List.getElem_cons_zero, List.setIfInBounds_toArray, List.set_cons_zero, List.set_cons_succ]
          refine wpAnyH_take (i := 5) (v := ?v7) rfl (by kernel_rfl) (by kernel_rfl) (by kernel_rfl) (fun _ _ _ h => h) (Or.inl ⟨by rfl, ?hy7⟩) hHeld ?rest7
          case hy7 =>
            intro w' hSw
            try dsimp only at hSw
            go_simp
            first | done | with_reducible rfl
          try simp only [Act.put, List.getElem_toArray, List.getElem_cons_succ, List.getElem_cons_zero, List.setIfInBounds_toArray, List.set_cons_zero, List.set_cons_succ]
          refine wpAnyH_take (i := 6) (v := ?v8) rfl (by kernel_rfl) (by kernel_rfl) (by kernel_rfl) (fun _ _ _ h => h) (Or.inl ⟨by rfl, ?hy8⟩) hHeld ?rest8
          case hy8 =>
            intro w' hSw
            try dsimp only at hSw
            go_simp
            first | done | with_reducible rfl
          try simp only [Act.put, List.getElem_toArray, List.getElem_cons_succ, List.getElem_cons_zero, List.setIfInBounds_toArray, List.set_cons_zero, List.set_cons_succ]
          refine wpAnyH_ready (rs := [8]) (by kernel_rfl) (by simp) ?_
          refine AllReadyH.cons (by rfl) (fun K hK => ?_) AllReadyH.nil
          refine step_store_pg RG5.out rfl (.tmp 5) (.tmp 12) (by rfl) (by rfl) (zpgc) (by rfl) zpgc_len zpgc_one ?_
          have SK := Lib.hid (RK5.out.set HGE9.out (zpgc).toArray)
          have SG := Lib.hid (Blk.setRow RG5.out (zpgc).toArray)
          generalize rw5.setRow g9 (zpgc).toArray = SW at SK SG ⊢
          refine hK.out _ _ (Blk.katG (SK.out.blk _ List.mem_cons_self).2) (fun hHeld => ?_)
          clear hK K
          try simp only [Act.put, List.getElem_toArray, List.getElem_cons_succ, List.getElem_cons_zero]
          refine wpAnyH_take (i := 9) (v := ?v9) rfl (by kernel_rfl) (by kernel_rfl) (by kernel_rfl) (fun _ _ _ h => h) (Or.inl ⟨by rfl, ?hy9⟩) hHeld ?rest9
          case hy9 =>
            intro w' hSw
            try dsimp only at hSw
            go_simp
            first | done | with_reducible rfl
          try simp only [Act.put, List.getElem_toArray, List.getElem_cons_succ, List.getElem_cons_zero, List.setIfInBounds_toArray, List.set_cons_zero, List.set_cons_succ]
          refine wpAnyH_done (by kernel_rfl) ?_ _
          refine OnlyN.normal ?_
          exact ⟨g9, rfl, rfl, SK.out, SG.out, HGE9.out⟩
    · refine step_alloc72 rfl (by rfl) ?_
      intro g9 rw6 hg hw
      have RK6 : Hid (Kb w _ _ rw6) := Lib.hid (by subst hw; exact HKB.out.drew.alloc _)
      have HGE9 : Hid (w.heap.size + 1 ≤ g9) := Lib.hid (by subst hg; exact HKB.out.drew.sz)
      have RG6 : Hid (Blk rw6 g9 72 zpgc.toArray) := Lib.hid (by subst hw hg; exact Blk.new _ _ _)
      clear hg hw hHeld
      refine hK.out _ _ (Blk.katG (RK6.out.blk _ List.mem_cons_self).2) (fun hHeld => ?_)
      clear hK K
      try simp only [Act.put, List.getElem_toArray, List.getElem_cons_succ, List.getElem_cons_zero, List.setIfInBounds_toArray, List.set_cons_zero, List.set_cons_succ]
      refine wpAnyH_ready (rs := [2]) (by kernel_rfl) (by simp) ?_
      refine AllReadyH.cons (by rfl) (fun K hK => ?_) AllReadyH.nil
      · go_simp
        refine (whole_any _).mono ?_
        rintro e_ rw7 ⟨rfl, c_⟩
        have RK7 := Lib.hid (RK6.out.below c_)
        have RG7 := Lib.hid (RG6.out.keep c_)
        clear c_ hHeld
        go_wp2_with fail
        refine hK.out _ _ (Blk.katG (RK7.out.blk _ List.mem_cons_self).2) (fun hHeld => ?_)
        clear hK K
        try simp only [Act.put, List.getElem_toArray, List.getElem_cons_succ, List.getElem_cons_zero, List.setIfInBounds_toArray, List.set_cons_zero, List.set_cons_succ]
        refine wpAnyH_ready (rs := [3]) (by kernel_rfl) (by simp) ?_
        refine AllReadyH.cons (by rfl) (fun K hK => ?_) AllReadyH.nil
        · go_simp
          refine (HASK.out _ RK7.out.bel).mono ?_
          rintro e_ rw8 ⟨rfl, c_⟩
          have RK8 := Lib.hid (RK7.out.below c_)
          have RG8 := Lib.hid (RG7.out.keep c_)
          clear c_ hHeld
          go_wp2_with fail
          refine hK.out _ _ (Blk.katG (RK8.out.blk _ List.mem_cons_self).2) (fun hHeld => ?_)
          clear hK K
          try simp only [Act.put, List.getElem_toArray, List.getElem_cons_succ, List.getElem_cons_zero, List.setIfInBounds_toArray, List.set_cons_zero, List.set_cons_succ]
          refine wpAnyH_take (i := 4) (v := ?v10) rfl (by kernel_rfl) (by kernel_rfl) (by kernel_rfl) (fun _ _ _ h => h) (Or.inl ⟨by rfl, ?hy10⟩) hHeld ?rest10
          case hy10 =>
            intro w' hSw
            try dsimp only at hSw
            go_simp
            first | done | with_reducible rfl
          try simp only [Act.put, List.getElem_toArray, List.getElem_cons_succ, List.getElem_cons_zero, List.setIfInBounds_toArray, List.set_cons_zero, List.set_cons_succ]
          refine wpAnyH_take (i := 5) (v := ?v11) rfl (by kernel_rfl) (by kernel_rfl) (by kernel_rfl) (fun _ _ _ h => h) (Or.inl ⟨by rfl, ?hy11⟩) hHeld ?rest11
          case hy11 =>
            intro w' hSw
            try dsimp only at hSw
            go_simp
            first | done | with_reducible rfl
          try simp only [Act.put, List.getElem_toArray, List.getElem_cons_succ, List.getElem_cons_zero, List.setIfInBounds_toArray, List.set_cons_zero, List.set_cons_succ]
          refine wpAnyH_take (i := 6) (v := ?v12) rfl (by kernel_rfl) (by kernel_rfl) (by kernel_rfl) (fun _ _ _ h => h) (Or.inl ⟨by rfl, ?hy12⟩) hHeld ?rest12
          case hy12 =>
            intro w' hSw
            try dsimp only at hSw
            go_simp
            first | done | with_reducible rfl
          try simp only [Act.put, List.getElem_toArray, List.getElem_cons_succ, List.getElem_cons_zero, List.setIfInBounds_toArray, List.set_cons_zero, List.set_cons_succ]
          refine wpAnyH_ready (rs := [8]) (by kernel_rfl) (by simp) ?_
          refine AllReadyH.cons (by rfl) (fun K hK => ?_) AllReadyH.nil
          refine step_store_pg RG8.out rfl (.tmp 5) (.tmp 12) (by rfl) (by rfl) (zpgc) (by rfl) zpgc_len zpgc_one ?_
          have SK := Lib.hid (RK8.out.set HGE9.out (zpgc).toArray)
          have SG := Lib.hid (Blk.setRow RG8.out (zpgc).toArray)
          generalize rw8.setRow g9 (zpgc).toArray = SW at SK SG ⊢
          refine hK.out _ _ (Blk.katG (SK.out.blk _ List.mem_cons_self).2) (fun hHeld => ?_)
          clear hK K
          try simp only [Act.put, List.getElem_toArray, List.getElem_cons_succ, List.getElem_cons_zero]
          refine wpAnyH_take (i := 9) (v := ?v13) rfl (by kernel_rfl) (by kernel_rfl) (by kernel_rfl) (fun _ _ _ h => h) (Or.inl ⟨by rfl, ?hy13⟩) hHeld ?rest13
          case hy13 =>
            intro w' hSw
            try dsimp only at hSw
            go_simp
            first | done | with_reducible rfl
          try simp only [Act.put, List.getElem_toArray, List.getElem_cons_succ, List.getElem_cons_zero, List.setIfInBounds_toArray, List.set_cons_zero, List.set_cons_succ]
          refine wpAnyH_done (by kernel_rfl) ?_ _
          refine OnlyN.normal ?_
          exact ⟨g9, rfl, rfl, SK.out, SG.out, HGE9.out⟩
  rintro g9 W ⟨hk, hg, hge⟩
  have HK := Lib.hid hk.bel
  clear hk hg hge HKB c0 c1 c2 c3 c4 c5
  simp only [Act.put, List.setIfInBounds_toArray, List.set_cons_zero, List.set_cons_succ]
  go_wp2_with fail
  go_ret
  exact ⟨rfl, HK.out⟩
set_option maxRecDepth 100000 in
set_option maxHeartbeats 4000000 in
theorem nclear_yes {w : World} {base p : Nat} {A : Option Addr} {cap : Nat} {ps : List Nat} {os : List Oj} (h : StAt w base p A cap ps os) (hT : Tab w) {u : Oj} (x : Ky) (j : Nat) (hj : j < os.length) (hxo : x.o = (j : Int)) (hok : (bAs u zbs rfl).ok os.length) (hask : ∀ W, Below w.heap.size w W → Calls Tryd.prog 23 #[pv p, x.val, .bool true, .agg (spn 0 64)] W fun e w' => e = .returned (.tuple #[.agg (pgc p x.o u).toArray, .int .i64 0]) ∧ Below W.heap.size W w') :
    Calls Tryd.prog 14 #[pv p, x.val] w fun e w' => e = .returned (.int .i64 0) ∧ StAt w' base p A cap ps (os.set j (bAs u zbs rfl)) ∧ Fr (fun k => k ∈ ps) w w' := by
  have HASK := Lib.hid hask
  have HSS := Lib.hid h
  have HTT := Lib.hid hT
  have HLT := Lib.hid (fun (k : Nat) (hk : stHas p A ps k) => (h.lt k hk).2)
  have HJ := Lib.hid hj
  have HXO := Lib.hid hxo
  have HOK := Lib.hid hok
  clear hask h hT hj hxo hok
  have hz := z72
  have hbl := zpgc_len
  have HKB := Lib.hid (show Kb w [(w.heap.size, 30, kc x.k x.o x.c x.l x.r x.v)] (w.heap.size + 1) (w.alloc (.cells (kc x.k x.o x.c x.l x.r x.v) 30)) from ⟨(Below.refl w.heap.size w).alloc (Nat.le_refl _) (.cells (kc x.k x.o x.c x.l x.r x.v) 30), by omega, by simp, fun b hm => by
    obtain rfl := List.mem_singleton.1 hm
    exact ⟨Nat.lt_succ_self _, Blk.new w 30 _⟩⟩)
  obtain ⟨c0, c1, c2, c3, c4, c5⟩ := (Blk.new w 30 (kc x.k x.o x.c x.l x.r x.v)).six
  go_enter Tryd.func14, Tryd.ntmps14
  go_wp2_with fail
  refine region_pg (fun ac g9 => (((((((((ac.put (some 8) (pv p)).put (some 9) x.val).put (some 10) (.agg (spn 0 64))).put (some 11) (.tuple #[.agg (pgc p x.o u).toArray, .int .i64 0])).put (some 7) (.tuple #[.agg (pgc p x.o u).toArray, .int .i64 0])).put (some 12) (.agg (pgc p x.o u).toArray)).put (some 13) (.int .i64 0)).put (some 5) (.pointer (some ⟨g9, 0, none⟩))).put (some 6) (.int .i64 0))) (fun g9 W => Kb w [(w.heap.size, 30, kc x.k x.o x.c x.l x.r x.v)] (w.heap.size + 1) W ∧ Blk W g9 72 (pgc p x.o u).toArray ∧ w.heap.size + 1 ≤ g9) ?mkC ?restC
  case mkC =>
    refine wp_region_only (S := fun W => KeyAt W w.heap.size 0 x) (by kernel_rfl) (Blk.katG (HKB.out.drew.blk _ List.mem_cons_self).2) (fun hHeld => ?_)
    refine wpAnyH_take (i := 0) (v := ?v14) rfl (by kernel_rfl) (by kernel_rfl) (by kernel_rfl) (fun _ _ _ h => h) (Or.inl ⟨by rfl, ?hy14⟩) hHeld ?rest14
    case hy14 =>
      intro w' hSw
      try dsimp only at hSw
      go_simp
      first | done | with_reducible rfl
    try simp only [Act.put, List.getElem_toArray, List.getElem_cons_zero, List.setIfInBounds_toArray, List.set_cons_zero, List.set_cons_succ]
    refine wpAnyH_take (i := 1) rfl (by kernel_rfl) (by kernel_rfl) (by kernel_rfl) (fun _ _ _ h => h) (y_kyG (by rfl) (.tmp 3) (by rfl) w.heap.size 0 (by rfl) x (fun _ h => h)) hHeld ?_
    try simp only [Act.put, List.getElem_toArray, List.getElem_cons_succ, List.getElem_cons_zero, List.setIfInBounds_toArray, List.set_cons_zero, List.set_cons_succ]
    refine wpAnyH_ready (rs := [2, 7]) (by kernel_rfl) (by simp) ?_
    refine AllReadyH.cons (by rfl) (fun K hK => ?_) (AllReadyH.cons (by rfl) (fun K hK => ?_) AllReadyH.nil)
    · go_simp
      refine (whole_any _).mono ?_
      rintro e_ rw9 ⟨rfl, c_⟩
      have RK9 := Lib.hid (HKB.out.drew.below c_)
      clear c_ hHeld
      go_wp2_with fail
      refine hK.out _ _ (Blk.katG (RK9.out.blk _ List.mem_cons_self).2) (fun hHeld => ?_)
      clear hK K
      try simp only [Act.put, List.getElem_toArray, List.getElem_cons_succ, List.getElem_cons_zero, List.setIfInBounds_toArray, List.set_cons_zero, List.set_cons_succ]
      refine wpAnyH_ready (rs := [3, 7]) (by kernel_rfl) (by simp) ?_
      refine AllReadyH.cons (by rfl) (fun K hK => ?_) (AllReadyH.cons (by rfl) (fun K hK => ?_) AllReadyH.nil)
      · go_simp
        refine (HASK.out _ RK9.out.bel).mono ?_
        rintro e_ rw10 ⟨rfl, c_⟩
        have RK10 := Lib.hid (RK9.out.below c_)
        clear c_ hHeld
        go_wp2_with fail
        refine hK.out _ _ (Blk.katG (RK10.out.blk _ List.mem_cons_self).2) (fun hHeld => ?_)
        clear hK K
        try simp only [Act.put, List.getElem_toArray, List.getElem_cons_succ, List.getElem_cons_zero, List.setIfInBounds_toArray, List.set_cons_zero, List.set_cons_succ]
        refine wpAnyH_take (i := 4) (v := ?v15) rfl (by kernel_rfl) (by kernel_rfl) (by kernel_rfl) (fun _ _ _ h => h) (Or.inl ⟨by rfl, ?hy15⟩) hHeld ?rest15
        case hy15 =>
          intro w' hSw
          try dsimp only at hSw
          go_simp
          first | done | with_reducible rfl
        try simp only [Act.put, List.getElem_toArray, List.getElem_cons_succ, List.getElem_cons_zero, List.setIfInBounds_toArray, List.set_cons_zero, List.set_cons_succ]
        refine wpAnyH_take (i := 5) (v := ?v16) rfl (by kernel_rfl) (by kernel_rfl) (by kernel_rfl) (fun _ _ _ h => h) (Or.inl ⟨by rfl, ?hy16⟩) hHeld ?rest16
        case hy16 =>
          intro w' hSw
          try dsimp only at hSw
          go_simp
          first | done | with_reducible rfl
        try simp only [Act.put, List.getElem_toArray, List.getElem_cons_succ, List.getElem_cons_zero, List.setIfInBounds_toArray, List.set_cons_zero, List.set_cons_succ]
        refine wpAnyH_take (i := 6) (v := ?v17) rfl (by kernel_rfl) (by kernel_rfl) (by kernel_rfl) (fun _ _ _ h => h) (Or.inl ⟨by rfl, ?hy17⟩) hHeld ?rest17
        case hy17 =>
          intro w' hSw
          try dsimp only at hSw
          go_simp
          first | done | with_reducible rfl
        try simp only [Act.put, List.getElem_toArray, List.getElem_cons_succ, List.getElem_cons_zero, List.setIfInBounds_toArray, List.set_cons_zero, List.set_cons_succ]
        refine wpAnyH_ready (rs := [7]) (by kernel_rfl) (by simp) ?_
        refine AllReadyH.cons (by rfl) (fun K hK => ?_) AllReadyH.nil
        · refine step_alloc72 rfl (by rfl) ?_
          intro g9 rw11 hg hw
          have RK11 : Hid (Kb w _ _ rw11) := Lib.hid (by subst hw; exact RK10.out.alloc _)
          have HGE9 : Hid (w.heap.size + 1 ≤ g9) := Lib.hid (by subst hg; exact RK10.out.sz)
          have RG11 : Hid (Blk rw11 g9 72 zpgc.toArray) := Lib.hid (by subst hw hg; exact Blk.new _ _ _)
          clear hg hw hHeld
          refine hK.out _ _ (Blk.katG (RK11.out.blk _ List.mem_cons_self).2) (fun hHeld => ?_)
          clear hK K
          try simp only [Act.put, List.getElem_toArray, List.getElem_cons_succ, List.getElem_cons_zero, List.setIfInBounds_toArray, List.set_cons_zero, List.set_cons_succ]
          refine wpAnyH_ready (rs := [8]) (by kernel_rfl) (by simp) ?_
          refine AllReadyH.cons (by rfl) (fun K hK => ?_) AllReadyH.nil
          refine step_store_pg RG11.out rfl (.tmp 5) (.tmp 12) (by rfl) (by rfl) (pgc p x.o u) (by rfl) (pgc_len _ _ _) (pgc_one _ _ _) ?_
          have SK := Lib.hid (RK11.out.set HGE9.out (pgc p x.o u).toArray)
          have SG := Lib.hid (Blk.setRow RG11.out (pgc p x.o u).toArray)
          generalize rw11.setRow g9 (pgc p x.o u).toArray = SW at SK SG ⊢
          refine hK.out _ _ (Blk.katG (SK.out.blk _ List.mem_cons_self).2) (fun hHeld => ?_)
          clear hK K
          try simp only [Act.put, List.getElem_toArray, List.getElem_cons_succ, List.getElem_cons_zero]
          refine wpAnyH_take (i := 9) (v := ?v18) rfl (by kernel_rfl) (by kernel_rfl) (by kernel_rfl) (fun _ _ _ h => h) (Or.inl ⟨by rfl, ?hy18⟩) hHeld ?rest18
          case hy18 =>
            intro w' hSw
            try dsimp only at hSw
            go_simp
            first | done | with_reducible rfl
          try simp only [Act.put, List.getElem_toArray, List.getElem_cons_succ, List.getElem_cons_zero, List.setIfInBounds_toArray, List.set_cons_zero, List.set_cons_succ]
          refine wpAnyH_done (by kernel_rfl) ?_ _
          refine OnlyN.normal ?_
          exact ⟨g9, rfl, rfl, SK.out, SG.out, HGE9.out⟩
      · refine step_alloc72 rfl (by rfl) ?_
        intro g9 rw12 hg hw
        have RK12 : Hid (Kb w _ _ rw12) := Lib.hid (by subst hw; exact RK9.out.alloc _)
        have HGE9 : Hid (w.heap.size + 1 ≤ g9) := Lib.hid (by subst hg; exact RK9.out.sz)
        have RG12 : Hid (Blk rw12 g9 72 zpgc.toArray) := Lib.hid (by subst hw hg; exact Blk.new _ _ _)
        clear hg hw hHeld
        refine hK.out _ _ (Blk.katG (RK12.out.blk _ List.mem_cons_self).2) (fun hHeld => ?_)
        clear hK K
        try simp only [Act.put, List.getElem_toArray, List.getElem_cons_succ, List.getElem_cons_zero, List.setIfInBounds_toArray, List.set_cons_zero, List.set_cons_succ]
        refine wpAnyH_ready (rs := [3]) (by kernel_rfl) (by simp) ?_
        refine AllReadyH.cons (by rfl) (fun K hK => ?_) AllReadyH.nil
        · go_simp
          refine (HASK.out _ RK12.out.bel).mono ?_
          rintro e_ rw13 ⟨rfl, c_⟩
          have RK13 := Lib.hid (RK12.out.below c_)
          have RG13 := Lib.hid (RG12.out.keep c_)
          clear c_ hHeld
          go_wp2_with fail
          refine hK.out _ _ (Blk.katG (RK13.out.blk _ List.mem_cons_self).2) (fun hHeld => ?_)
          clear hK K
          try simp only [Act.put, List.getElem_toArray, List.getElem_cons_succ, List.getElem_cons_zero, List.setIfInBounds_toArray, List.set_cons_zero, List.set_cons_succ]
          refine wpAnyH_take (i := 4) (v := ?v19) rfl (by kernel_rfl) (by kernel_rfl) (by kernel_rfl) (fun _ _ _ h => h) (Or.inl ⟨by rfl, ?hy19⟩) hHeld ?rest19
          case hy19 =>
            intro w' hSw
            try dsimp only at hSw
            go_simp
            first | done | with_reducible rfl
          try simp only [Act.put, List.getElem_toArray, List.getElem_cons_succ, List.getElem_cons_zero, List.setIfInBounds_toArray, List.set_cons_zero, List.set_cons_succ]
          refine wpAnyH_take (i := 5) (v := ?v20) rfl (by kernel_rfl) (by kernel_rfl) (by kernel_rfl) (fun _ _ _ h => h) (Or.inl ⟨by rfl, ?hy20⟩) hHeld ?rest20
          case hy20 =>
            intro w' hSw
            try dsimp only at hSw
            go_simp
            first | done | with_reducible rfl
          try simp only [Act.put, List.getElem_toArray, List.getElem_cons_succ, List.getElem_cons_zero, List.setIfInBounds_toArray, List.set_cons_zero, List.set_cons_succ]
          refine wpAnyH_take (i := 6) (v := ?v21) rfl (by kernel_rfl) (by kernel_rfl) (by kernel_rfl) (fun _ _ _ h => h) (Or.inl ⟨by rfl, ?hy21⟩) hHeld ?rest21
          case hy21 =>
            intro w' hSw
            try dsimp only at hSw
            go_simp
            first | done | with_reducible rfl
          try simp only [Act.put, List.getElem_toArray, List.getElem_cons_succ, List.getElem_cons_zero, List.setIfInBounds_toArray, List.set_cons_zero, List.set_cons_succ]
          refine wpAnyH_ready (rs := [8]) (by kernel_rfl) (by simp) ?_
          refine AllReadyH.cons (by rfl) (fun K hK => ?_) AllReadyH.nil
          refine step_store_pg RG13.out rfl (.tmp 5) (.tmp 12) (by rfl) (by rfl) (pgc p x.o u) (by rfl) (pgc_len _ _ _) (pgc_one _ _ _) ?_
          have SK := Lib.hid (RK13.out.set HGE9.out (pgc p x.o u).toArray)
          have SG := Lib.hid (Blk.setRow RG13.out (pgc p x.o u).toArray)
          generalize rw13.setRow g9 (pgc p x.o u).toArray = SW at SK SG ⊢
          refine hK.out _ _ (Blk.katG (SK.out.blk _ List.mem_cons_self).2) (fun hHeld => ?_)
          clear hK K
          try simp only [Act.put, List.getElem_toArray, List.getElem_cons_succ, List.getElem_cons_zero]
          refine wpAnyH_take (i := 9) (v := ?v22) rfl (by kernel_rfl) (by kernel_rfl) (by kernel_rfl) (fun _ _ _ h => h) (Or.inl ⟨by rfl, ?hy22⟩) hHeld ?rest22
          case hy22 =>
            intro w' hSw
            try dsimp only at hSw
            go_simp
            first | done | with_reducible rfl
          try simp only [Act.put, List.getElem_toArray, List.getElem_cons_succ, List.getElem_cons_zero, List.setIfInBounds_toArray, List.set_cons_zero, List.set_cons_succ]
          refine wpAnyH_done (by kernel_rfl) ?_ _
          refine OnlyN.normal ?_
          exact ⟨g9, rfl, rfl, SK.out, SG.out, HGE9.out⟩
    · refine step_alloc72 rfl (by rfl) ?_
      intro g9 rw14 hg hw
      have RK14 : Hid (Kb w _ _ rw14) := Lib.hid (by subst hw; exact HKB.out.drew.alloc _)
      have HGE9 : Hid (w.heap.size + 1 ≤ g9) := Lib.hid (by subst hg; exact HKB.out.drew.sz)
      have RG14 : Hid (Blk rw14 g9 72 zpgc.toArray) := Lib.hid (by subst hw hg; exact Blk.new _ _ _)
      clear hg hw hHeld
      refine hK.out _ _ (Blk.katG (RK14.out.blk _ List.mem_cons_self).2) (fun hHeld => ?_)
      clear hK K
      try simp only [Act.put, List.getElem_toArray, List.getElem_cons_succ, List.getElem_cons_zero, List.setIfInBounds_toArray, List.set_cons_zero, List.set_cons_succ]
      refine wpAnyH_ready (rs := [2]) (by kernel_rfl) (by simp) ?_
      refine AllReadyH.cons (by rfl) (fun K hK => ?_) AllReadyH.nil
      · go_simp
        refine (whole_any _).mono ?_
        rintro e_ rw15 ⟨rfl, c_⟩
        have RK15 := Lib.hid (RK14.out.below c_)
        have RG15 := Lib.hid (RG14.out.keep c_)
        clear c_ hHeld
        go_wp2_with fail
        refine hK.out _ _ (Blk.katG (RK15.out.blk _ List.mem_cons_self).2) (fun hHeld => ?_)
        clear hK K
        try simp only [Act.put, List.getElem_toArray, List.getElem_cons_succ, List.getElem_cons_zero, List.setIfInBounds_toArray, List.set_cons_zero, List.set_cons_succ]
        refine wpAnyH_ready (rs := [3]) (by kernel_rfl) (by simp) ?_
        refine AllReadyH.cons (by rfl) (fun K hK => ?_) AllReadyH.nil
        · go_simp
          refine (HASK.out _ RK15.out.bel).mono ?_
          rintro e_ rw16 ⟨rfl, c_⟩
          have RK16 := Lib.hid (RK15.out.below c_)
          have RG16 := Lib.hid (RG15.out.keep c_)
          clear c_ hHeld
          go_wp2_with fail
          refine hK.out _ _ (Blk.katG (RK16.out.blk _ List.mem_cons_self).2) (fun hHeld => ?_)
          clear hK K
          try simp only [Act.put, List.getElem_toArray, List.getElem_cons_succ, List.getElem_cons_zero, List.setIfInBounds_toArray, List.set_cons_zero, List.set_cons_succ]
          refine wpAnyH_take (i := 4) (v := ?v23) rfl (by kernel_rfl) (by kernel_rfl) (by kernel_rfl) (fun _ _ _ h => h) (Or.inl ⟨by rfl, ?hy23⟩) hHeld ?rest23
          case hy23 =>
            intro w' hSw
            try dsimp only at hSw
            go_simp
            first | done | with_reducible rfl
          try simp only [Act.put, List.getElem_toArray, List.getElem_cons_succ, List.getElem_cons_zero, List.setIfInBounds_toArray, List.set_cons_zero, List.set_cons_succ]
          refine wpAnyH_take (i := 5) (v := ?v24) rfl (by kernel_rfl) (by kernel_rfl) (by kernel_rfl) (fun _ _ _ h => h) (Or.inl ⟨by rfl, ?hy24⟩) hHeld ?rest24
          case hy24 =>
            intro w' hSw
            try dsimp only at hSw
            go_simp
            first | done | with_reducible rfl
          try simp only [Act.put, List.getElem_toArray, List.getElem_cons_succ, List.getElem_cons_zero, List.setIfInBounds_toArray, List.set_cons_zero, List.set_cons_succ]
          refine wpAnyH_take (i := 6) (v := ?v25) rfl (by kernel_rfl) (by kernel_rfl) (by kernel_rfl) (fun _ _ _ h => h) (Or.inl ⟨by rfl, ?hy25⟩) hHeld ?rest25
          case hy25 =>
            intro w' hSw
            try dsimp only at hSw
            go_simp
            first | done | with_reducible rfl
          try simp only [Act.put, List.getElem_toArray, List.getElem_cons_succ, List.getElem_cons_zero, List.setIfInBounds_toArray, List.set_cons_zero, List.set_cons_succ]
          refine wpAnyH_ready (rs := [8]) (by kernel_rfl) (by simp) ?_
          refine AllReadyH.cons (by rfl) (fun K hK => ?_) AllReadyH.nil
          refine step_store_pg RG16.out rfl (.tmp 5) (.tmp 12) (by rfl) (by rfl) (pgc p x.o u) (by rfl) (pgc_len _ _ _) (pgc_one _ _ _) ?_
          have SK := Lib.hid (RK16.out.set HGE9.out (pgc p x.o u).toArray)
          have SG := Lib.hid (Blk.setRow RG16.out (pgc p x.o u).toArray)
          generalize rw16.setRow g9 (pgc p x.o u).toArray = SW at SK SG ⊢
          refine hK.out _ _ (Blk.katG (SK.out.blk _ List.mem_cons_self).2) (fun hHeld => ?_)
          clear hK K
          try simp only [Act.put, List.getElem_toArray, List.getElem_cons_succ, List.getElem_cons_zero]
          refine wpAnyH_take (i := 9) (v := ?v26) rfl (by kernel_rfl) (by kernel_rfl) (by kernel_rfl) (fun _ _ _ h => h) (Or.inl ⟨by rfl, ?hy26⟩) hHeld ?rest26
          case hy26 =>
            intro w' hSw
            try dsimp only at hSw
            go_simp
            first | done | with_reducible rfl
          try simp only [Act.put, List.getElem_toArray, List.getElem_cons_succ, List.getElem_cons_zero, List.setIfInBounds_toArray, List.set_cons_zero, List.set_cons_succ]
          refine wpAnyH_done (by kernel_rfl) ?_ _
          refine OnlyN.normal ?_
          exact ⟨g9, rfl, rfl, SK.out, SG.out, HGE9.out⟩
  rintro g9 W ⟨hk, hg, hge⟩
  have HB1 := Lib.hid hk.bel
  have HG1 := Lib.hid hg
  have HGE := Lib.hid hge
  clear hk hg hge HKB c0 c1 c2 c3 c4 c5
  simp only [Act.put, List.setIfInBounds_toArray, List.set_cons_zero, List.set_cons_succ]
  go_wp2_with (go_at_call 24; refine (chg_clear (HSS.out.below HB1.out) (HTT.out.below HB1.out) HG1.out (fun k hk => by have := HLT.out k hk; have := HGE.out; omega) (fun ht W hf => ht.fr1 (by have := HTT.out.lt; have := HGE.out; omega) hf) j HJ.out HXO.out HOK.out).mono ?_; rintro e w2 ⟨rfl, hs2, hf2⟩; have HS2 := Lib.hid hs2; have HF2 := Lib.hid ((Fr.of_below HB1.out : Fr (fun k => k ∈ ps) w _).then_ hf2 (fun i hi hs => hs.elim (fun e => by have := HGE.out; omega) id)); clear hs2 hf2)
  go_ret
  exact ⟨rfl, HS2.out, HF2.out⟩
set_option maxRecDepth 100000 in
set_option maxHeartbeats 4000000 in
theorem ncopy_err {w : World} {P : Value} (x y : Ky) (m : Int) (hm : m ≠ 0) (hask : ∀ W, Below w.heap.size w W → Calls Tryd.prog 23 #[P, x.val, .bool true, .agg (spn 0 64)] W fun e w' => e = .returned (.tuple #[.agg (zpgc).toArray, .int .i64 m]) ∧ Below W.heap.size W w') :
    Calls Tryd.prog 15 #[P, x.val, y.val] w fun e w' => e = .returned (.int .i64 m) ∧ Below w.heap.size w w' := by
  have HASK := Lib.hid hask
  have dm : (m != 0) = true := by simpa using hm
  clear hask hm
  have hz := z72
  have hbl := zpgc_len
  have HKB := Lib.hid (show Kb w [(w.heap.size, 30, kc x.k x.o x.c x.l x.r x.v), (w.heap.size + 1, 30, kc y.k y.o y.c y.l y.r y.v)] (w.heap.size + 2) ((w.alloc (.cells (kc x.k x.o x.c x.l x.r x.v) 30)).alloc (.cells (kc y.k y.o y.c y.l y.r y.v) 30)) from ⟨((Below.refl w.heap.size w).alloc (Nat.le_refl _) (.cells (kc x.k x.o x.c x.l x.r x.v) 30)).alloc (by simp) (.cells (kc y.k y.o y.c y.l y.r y.v) 30), by omega, by simp, fun b hm => by
    rcases List.mem_cons.1 hm with rfl | hm
    · exact ⟨by simp, (Blk.new w 30 _).alloc _⟩
    · obtain rfl := List.mem_singleton.1 hm
      exact ⟨by simp, Blk.new_of (w.alloc (.cells (kc x.k x.o x.c x.l x.r x.v) 30)) 30 _ (g := w.heap.size + 1) (by simp)⟩⟩)
  obtain ⟨c0, c1, c2, c3, c4, c5⟩ := (HKB.out.blk _ List.mem_cons_self).2.six
  obtain ⟨d0, d1, d2, d3, d4, d5⟩ := (HKB.out.blk _ (List.mem_cons_of_mem _ List.mem_cons_self)).2.six
  go_enter Tryd.func15, Tryd.ntmps15
  go_wp2_with fail
  refine region_pg (fun ac g9 => (((((((((ac.put (some 11) (P)).put (some 12) x.val).put (some 13) (.agg (spn 0 64))).put (some 14) (.tuple #[.agg (zpgc).toArray, .int .i64 m])).put (some 10) (.tuple #[.agg (zpgc).toArray, .int .i64 m])).put (some 15) (.agg (zpgc).toArray)).put (some 16) (.int .i64 m)).put (some 7) (.pointer (some ⟨g9, 0, none⟩))).put (some 8) (.int .i64 m))) (fun g9 W => Kb w [(w.heap.size, 30, kc x.k x.o x.c x.l x.r x.v), (w.heap.size + 1, 30, kc y.k y.o y.c y.l y.r y.v)] (w.heap.size + 2) W ∧ Blk W g9 72 (zpgc).toArray ∧ w.heap.size + 2 ≤ g9) ?mkC ?restC
  case mkC =>
    refine wp_region_only (S := fun W => KeyAt W w.heap.size 0 x) (by kernel_rfl) (Blk.katG (HKB.out.drew.blk _ List.mem_cons_self).2) (fun hHeld => ?_)
    refine wpAnyH_take (i := 0) (v := ?v27) rfl (by kernel_rfl) (by kernel_rfl) (by kernel_rfl) (fun _ _ _ h => h) (Or.inl ⟨by rfl, ?hy27⟩) hHeld ?rest27
    case hy27 =>
      intro w' hSw
      try dsimp only at hSw
      go_simp
      first | done | with_reducible rfl
    try simp only [Act.put, List.getElem_toArray, List.getElem_cons_zero, List.setIfInBounds_toArray, List.set_cons_zero, List.set_cons_succ]
    refine wpAnyH_take (i := 1) rfl (by kernel_rfl) (by kernel_rfl) (by kernel_rfl) (fun _ _ _ h => h) (y_kyG (by rfl) (.tmp 4) (by rfl) w.heap.size 0 (by rfl) x (fun _ h => h)) hHeld ?_
    try simp only [Act.put, List.getElem_toArray, List.getElem_cons_succ, List.getElem_cons_zero, List.setIfInBounds_toArray, List.set_cons_zero, List.set_cons_succ]
    refine wpAnyH_ready (rs := [2, 7]) (by kernel_rfl) (by simp) ?_
    refine AllReadyH.cons (by rfl) (fun K hK => ?_) (AllReadyH.cons (by rfl) (fun K hK => ?_) AllReadyH.nil)
    · go_simp
      refine (whole_any _).mono ?_
      rintro e_ rw17 ⟨rfl, c_⟩
      have RK17 := Lib.hid (HKB.out.drew.below c_)
      clear c_ hHeld
      go_wp2_with fail
      refine hK.out _ _ (Blk.katG (RK17.out.blk _ List.mem_cons_self).2) (fun hHeld => ?_)
      clear hK K
      try simp only [Act.put, List.getElem_toArray, List.getElem_cons_succ, List.getElem_cons_zero, List.setIfInBounds_toArray, List.set_cons_zero, List.set_cons_succ]
      refine wpAnyH_ready (rs := [3, 7]) (by kernel_rfl) (by simp) ?_
      refine AllReadyH.cons (by rfl) (fun K hK => ?_) (AllReadyH.cons (by rfl) (fun K hK => ?_) AllReadyH.nil)
      · go_simp
        refine (HASK.out _ RK17.out.bel).mono ?_
        rintro e_ rw18 ⟨rfl, c_⟩
        have RK18 := Lib.hid (RK17.out.below c_)
        clear c_ hHeld
        go_wp2_with fail
        refine hK.out _ _ (Blk.katG (RK18.out.blk _ List.mem_cons_self).2) (fun hHeld => ?_)
        clear hK K
        try simp only [Act.put, List.getElem_toArray, List.getElem_cons_succ, List.getElem_cons_zero, List.setIfInBounds_toArray, List.set_cons_zero, List.set_cons_succ]
        refine wpAnyH_take (i := 4) (v := ?v28) rfl (by kernel_rfl) (by kernel_rfl) (by kernel_rfl) (fun _ _ _ h => h) (Or.inl ⟨by rfl, ?hy28⟩) hHeld ?rest28
        case hy28 =>
          intro w' hSw
          try dsimp only at hSw
          go_simp
          first | done | with_reducible rfl
        try simp only [Act.put, List.getElem_toArray, List.getElem_cons_succ, List.getElem_cons_zero, List.setIfInBounds_toArray, List.set_cons_zero, List.set_cons_succ]
        refine wpAnyH_take (i := 5) (v := ?v29) rfl (by kernel_rfl) (by kernel_rfl) (by kernel_rfl) (fun _ _ _ h => h) (Or.inl ⟨by rfl, ?hy29⟩) hHeld ?rest29
        case hy29 =>
          intro w' hSw
          try dsimp only at hSw
          go_simp
          first | done | with_reducible rfl
        try simp only [Act.put, List.getElem_toArray, List.getElem_cons_succ, List.getElem_cons_zero, List.setIfInBounds_toArray, List.set_cons_zero, List.set_cons_succ]
        refine wpAnyH_take (i := 6) (v := ?v30) rfl (by kernel_rfl) (by kernel_rfl) (by kernel_rfl) (fun _ _ _ h => h) (Or.inl ⟨by rfl, ?hy30⟩) hHeld ?rest30
        case hy30 =>
          intro w' hSw
          try dsimp only at hSw
          go_simp
          first | done | with_reducible rfl
        try simp only [Act.put, List.getElem_toArray, List.getElem_cons_succ, List.getElem_cons_zero, List.setIfInBounds_toArray, List.set_cons_zero, List.set_cons_succ]
        refine wpAnyH_ready (rs := [7]) (by kernel_rfl) (by simp) ?_
        refine AllReadyH.cons (by rfl) (fun K hK => ?_) AllReadyH.nil
        · refine step_alloc72 rfl (by rfl) ?_
          intro g9 rw19 hg hw
          have RK19 : Hid (Kb w _ _ rw19) := Lib.hid (by subst hw; exact RK18.out.alloc _)
          have HGE9 : Hid (w.heap.size + 2 ≤ g9) := Lib.hid (by subst hg; exact RK18.out.sz)
          have RG19 : Hid (Blk rw19 g9 72 zpgc.toArray) := Lib.hid (by subst hw hg; exact Blk.new _ _ _)
          clear hg hw hHeld
          refine hK.out _ _ (Blk.katG (RK19.out.blk _ List.mem_cons_self).2) (fun hHeld => ?_)
          clear hK K
          try simp only [Act.put, List.getElem_toArray, List.getElem_cons_succ, List.getElem_cons_zero, List.setIfInBounds_toArray, List.set_cons_zero, List.set_cons_succ]
          refine wpAnyH_ready (rs := [8]) (by kernel_rfl) (by simp) ?_
          refine AllReadyH.cons (by rfl) (fun K hK => ?_) AllReadyH.nil
          refine step_store_pg RG19.out rfl (.tmp 7) (.tmp 15) (by rfl) (by rfl) (zpgc) (by rfl) zpgc_len zpgc_one ?_
          have SK := Lib.hid (RK19.out.set HGE9.out (zpgc).toArray)
          have SG := Lib.hid (Blk.setRow RG19.out (zpgc).toArray)
          generalize rw19.setRow g9 (zpgc).toArray = SW at SK SG ⊢
          refine hK.out _ _ (Blk.katG (SK.out.blk _ List.mem_cons_self).2) (fun hHeld => ?_)
          clear hK K
          try simp only [Act.put, List.getElem_toArray, List.getElem_cons_succ, List.getElem_cons_zero]
          refine wpAnyH_take (i := 9) (v := ?v31) rfl (by kernel_rfl) (by kernel_rfl) (by kernel_rfl) (fun _ _ _ h => h) (Or.inl ⟨by rfl, ?hy31⟩) hHeld ?rest31
          case hy31 =>
            intro w' hSw
            try dsimp only at hSw
            go_simp
            first | done | with_reducible rfl
          try simp only [Act.put, List.getElem_toArray, List.getElem_cons_succ, List.getElem_cons_zero, List.setIfInBounds_toArray, List.set_cons_zero, List.set_cons_succ]
          refine wpAnyH_done (by kernel_rfl) ?_ _
          refine OnlyN.normal ?_
          exact ⟨g9, rfl, rfl, SK.out, SG.out, HGE9.out⟩
      · refine step_alloc72 rfl (by rfl) ?_
        intro g9 rw20 hg hw
        have RK20 : Hid (Kb w _ _ rw20) := Lib.hid (by subst hw; exact RK17.out.alloc _)
        have HGE9 : Hid (w.heap.size + 2 ≤ g9) := Lib.hid (by subst hg; exact RK17.out.sz)
        have RG20 : Hid (Blk rw20 g9 72 zpgc.toArray) := Lib.hid (by subst hw hg; exact Blk.new _ _ _)
        clear hg hw hHeld
        refine hK.out _ _ (Blk.katG (RK20.out.blk _ List.mem_cons_self).2) (fun hHeld => ?_)
        clear hK K
        try simp only [Act.put, List.getElem_toArray, List.getElem_cons_succ, List.getElem_cons_zero, List.setIfInBounds_toArray, List.set_cons_zero, List.set_cons_succ]
        refine wpAnyH_ready (rs := [3]) (by kernel_rfl) (by simp) ?_
        refine AllReadyH.cons (by rfl) (fun K hK => ?_) AllReadyH.nil
        · go_simp
          refine (HASK.out _ RK20.out.bel).mono ?_
          rintro e_ rw21 ⟨rfl, c_⟩
          have RK21 := Lib.hid (RK20.out.below c_)
          have RG21 := Lib.hid (RG20.out.keep c_)
          clear c_ hHeld
          go_wp2_with fail
          refine hK.out _ _ (Blk.katG (RK21.out.blk _ List.mem_cons_self).2) (fun hHeld => ?_)
          clear hK K
          try simp only [Act.put, List.getElem_toArray, List.getElem_cons_succ, List.getElem_cons_zero, List.setIfInBounds_toArray, List.set_cons_zero, List.set_cons_succ]
          refine wpAnyH_take (i := 4) (v := ?v32) rfl (by kernel_rfl) (by kernel_rfl) (by kernel_rfl) (fun _ _ _ h => h) (Or.inl ⟨by rfl, ?hy32⟩) hHeld ?rest32
          case hy32 =>
            intro w' hSw
            try dsimp only at hSw
            go_simp
            first | done | with_reducible rfl
          try simp only [Act.put, List.getElem_toArray, List.getElem_cons_succ, List.getElem_cons_zero, List.setIfInBounds_toArray, List.set_cons_zero, List.set_cons_succ]
          refine wpAnyH_take (i := 5) (v := ?v33) rfl (by kernel_rfl) (by kernel_rfl) (by kernel_rfl) (fun _ _ _ h => h) (Or.inl ⟨by rfl, ?hy33⟩) hHeld ?rest33
          case hy33 =>
            intro w' hSw
            try dsimp only at hSw
            go_simp
            first | done | with_reducible rfl
          try simp only [Act.put, List.getElem_toArray, List.getElem_cons_succ, List.getElem_cons_zero, List.setIfInBounds_toArray, List.set_cons_zero, List.set_cons_succ]
          refine wpAnyH_take (i := 6) (v := ?v34) rfl (by kernel_rfl) (by kernel_rfl) (by kernel_rfl) (fun _ _ _ h => h) (Or.inl ⟨by rfl, ?hy34⟩) hHeld ?rest34
          case hy34 =>
            intro w' hSw
            try dsimp only at hSw
            go_simp
            first | done | with_reducible rfl
          try simp only [Act.put, List.getElem_toArray, List.getElem_cons_succ, List.getElem_cons_zero, List.setIfInBounds_toArray, List.set_cons_zero, List.set_cons_succ]
          refine wpAnyH_ready (rs := [8]) (by kernel_rfl) (by simp) ?_
          refine AllReadyH.cons (by rfl) (fun K hK => ?_) AllReadyH.nil
          refine step_store_pg RG21.out rfl (.tmp 7) (.tmp 15) (by rfl) (by rfl) (zpgc) (by rfl) zpgc_len zpgc_one ?_
          have SK := Lib.hid (RK21.out.set HGE9.out (zpgc).toArray)
          have SG := Lib.hid (Blk.setRow RG21.out (zpgc).toArray)
          generalize rw21.setRow g9 (zpgc).toArray = SW at SK SG ⊢
          refine hK.out _ _ (Blk.katG (SK.out.blk _ List.mem_cons_self).2) (fun hHeld => ?_)
          clear hK K
          try simp only [Act.put, List.getElem_toArray, List.getElem_cons_succ, List.getElem_cons_zero]
          refine wpAnyH_take (i := 9) (v := ?v35) rfl (by kernel_rfl) (by kernel_rfl) (by kernel_rfl) (fun _ _ _ h => h) (Or.inl ⟨by rfl, ?hy35⟩) hHeld ?rest35
          case hy35 =>
            intro w' hSw
            try dsimp only at hSw
            go_simp
            first | done | with_reducible rfl
          try simp only [Act.put, List.getElem_toArray, List.getElem_cons_succ, List.getElem_cons_zero, List.setIfInBounds_toArray, List.set_cons_zero, List.set_cons_succ]
          refine wpAnyH_done (by kernel_rfl) ?_ _
          refine OnlyN.normal ?_
          exact ⟨g9, rfl, rfl, SK.out, SG.out, HGE9.out⟩
    · refine step_alloc72 rfl (by rfl) ?_
      intro g9 rw22 hg hw
      have RK22 : Hid (Kb w _ _ rw22) := Lib.hid (by subst hw; exact HKB.out.drew.alloc _)
      have HGE9 : Hid (w.heap.size + 2 ≤ g9) := Lib.hid (by subst hg; exact HKB.out.drew.sz)
      have RG22 : Hid (Blk rw22 g9 72 zpgc.toArray) := Lib.hid (by subst hw hg; exact Blk.new _ _ _)
      clear hg hw hHeld
      refine hK.out _ _ (Blk.katG (RK22.out.blk _ List.mem_cons_self).2) (fun hHeld => ?_)
      clear hK K
      try simp only [Act.put, List.getElem_toArray, List.getElem_cons_succ, List.getElem_cons_zero, List.setIfInBounds_toArray, List.set_cons_zero, List.set_cons_succ]
      refine wpAnyH_ready (rs := [2]) (by kernel_rfl) (by simp) ?_
      refine AllReadyH.cons (by rfl) (fun K hK => ?_) AllReadyH.nil
      · go_simp
        refine (whole_any _).mono ?_
        rintro e_ rw23 ⟨rfl, c_⟩
        have RK23 := Lib.hid (RK22.out.below c_)
        have RG23 := Lib.hid (RG22.out.keep c_)
        clear c_ hHeld
        go_wp2_with fail
        refine hK.out _ _ (Blk.katG (RK23.out.blk _ List.mem_cons_self).2) (fun hHeld => ?_)
        clear hK K
        try simp only [Act.put, List.getElem_toArray, List.getElem_cons_succ, List.getElem_cons_zero, List.setIfInBounds_toArray, List.set_cons_zero, List.set_cons_succ]
        refine wpAnyH_ready (rs := [3]) (by kernel_rfl) (by simp) ?_
        refine AllReadyH.cons (by rfl) (fun K hK => ?_) AllReadyH.nil
        · go_simp
          refine (HASK.out _ RK23.out.bel).mono ?_
          rintro e_ rw24 ⟨rfl, c_⟩
          have RK24 := Lib.hid (RK23.out.below c_)
          have RG24 := Lib.hid (RG23.out.keep c_)
          clear c_ hHeld
          go_wp2_with fail
          refine hK.out _ _ (Blk.katG (RK24.out.blk _ List.mem_cons_self).2) (fun hHeld => ?_)
          clear hK K
          try simp only [Act.put, List.getElem_toArray, List.getElem_cons_succ, List.getElem_cons_zero, List.setIfInBounds_toArray, List.set_cons_zero, List.set_cons_succ]
          refine wpAnyH_take (i := 4) (v := ?v36) rfl (by kernel_rfl) (by kernel_rfl) (by kernel_rfl) (fun _ _ _ h => h) (Or.inl ⟨by rfl, ?hy36⟩) hHeld ?rest36
          case hy36 =>
            intro w' hSw
            try dsimp only at hSw
            go_simp
            first | done | with_reducible rfl
          try simp only [Act.put, List.getElem_toArray, List.getElem_cons_succ, List.getElem_cons_zero, List.setIfInBounds_toArray, List.set_cons_zero, List.set_cons_succ]
          refine wpAnyH_take (i := 5) (v := ?v37) rfl (by kernel_rfl) (by kernel_rfl) (by kernel_rfl) (fun _ _ _ h => h) (Or.inl ⟨by rfl, ?hy37⟩) hHeld ?rest37
          case hy37 =>
            intro w' hSw
            try dsimp only at hSw
            go_simp
            first | done | with_reducible rfl
          try simp only [Act.put, List.getElem_toArray, List.getElem_cons_succ, List.getElem_cons_zero, List.setIfInBounds_toArray, List.set_cons_zero, List.set_cons_succ]
          refine wpAnyH_take (i := 6) (v := ?v38) rfl (by kernel_rfl) (by kernel_rfl) (by kernel_rfl) (fun _ _ _ h => h) (Or.inl ⟨by rfl, ?hy38⟩) hHeld ?rest38
          case hy38 =>
            intro w' hSw
            try dsimp only at hSw
            go_simp
            first | done | with_reducible rfl
          try simp only [Act.put, List.getElem_toArray, List.getElem_cons_succ, List.getElem_cons_zero, List.setIfInBounds_toArray, List.set_cons_zero, List.set_cons_succ]
          refine wpAnyH_ready (rs := [8]) (by kernel_rfl) (by simp) ?_
          refine AllReadyH.cons (by rfl) (fun K hK => ?_) AllReadyH.nil
          refine step_store_pg RG24.out rfl (.tmp 7) (.tmp 15) (by rfl) (by rfl) (zpgc) (by rfl) zpgc_len zpgc_one ?_
          have SK := Lib.hid (RK24.out.set HGE9.out (zpgc).toArray)
          have SG := Lib.hid (Blk.setRow RG24.out (zpgc).toArray)
          generalize rw24.setRow g9 (zpgc).toArray = SW at SK SG ⊢
          refine hK.out _ _ (Blk.katG (SK.out.blk _ List.mem_cons_self).2) (fun hHeld => ?_)
          clear hK K
          try simp only [Act.put, List.getElem_toArray, List.getElem_cons_succ, List.getElem_cons_zero]
          refine wpAnyH_take (i := 9) (v := ?v39) rfl (by kernel_rfl) (by kernel_rfl) (by kernel_rfl) (fun _ _ _ h => h) (Or.inl ⟨by rfl, ?hy39⟩) hHeld ?rest39
          case hy39 =>
            intro w' hSw
            try dsimp only at hSw
            go_simp
            first | done | with_reducible rfl
          try simp only [Act.put, List.getElem_toArray, List.getElem_cons_succ, List.getElem_cons_zero, List.setIfInBounds_toArray, List.set_cons_zero, List.set_cons_succ]
          refine wpAnyH_done (by kernel_rfl) ?_ _
          refine OnlyN.normal ?_
          exact ⟨g9, rfl, rfl, SK.out, SG.out, HGE9.out⟩
  rintro g9 W ⟨hk, hg, hge⟩
  have HK := Lib.hid hk.bel
  clear hk hg hge HKB c0 c1 c2 c3 c4 c5 d0 d1 d2 d3 d4 d5
  simp only [Act.put, List.setIfInBounds_toArray, List.set_cons_zero, List.set_cons_succ]
  go_wp2_with fail
  go_ret
  exact ⟨rfl, HK.out⟩
set_option maxRecDepth 100000 in
set_option maxHeartbeats 4000000 in
theorem ncopy_from {w : World} {p : Nat} {u : Oj} (x y : Ky) (m : Int) (hm : m ≠ 0) (hask : ∀ W, Below w.heap.size w W → Calls Tryd.prog 23 #[pv p, x.val, .bool true, .agg (spn 0 64)] W fun e w' => e = .returned (.tuple #[.agg (pgc p x.o u).toArray, .int .i64 0]) ∧ Below W.heap.size W w') (hask2 : ∀ W, Below w.heap.size w W → Calls Tryd.prog 23 #[pv p, y.val, .bool false, .agg (spn 0 64)] W fun e w' => e = .returned (.tuple #[.agg (zpgc).toArray, .int .i64 m]) ∧ Below W.heap.size W w') :
    Calls Tryd.prog 15 #[pv p, x.val, y.val] w fun e w' => e = .returned (.int .i64 m) ∧ Below w.heap.size w w' := by
  have HASK := Lib.hid hask
  have HASK2 := Lib.hid hask2
  have dm : (m != 0) = true := by simpa using hm
  clear hask hask2 hm
  have hz := z72
  have hbl := zpgc_len
  have HKB := Lib.hid (show Kb w [(w.heap.size, 30, kc x.k x.o x.c x.l x.r x.v), (w.heap.size + 1, 30, kc y.k y.o y.c y.l y.r y.v)] (w.heap.size + 2) ((w.alloc (.cells (kc x.k x.o x.c x.l x.r x.v) 30)).alloc (.cells (kc y.k y.o y.c y.l y.r y.v) 30)) from ⟨((Below.refl w.heap.size w).alloc (Nat.le_refl _) (.cells (kc x.k x.o x.c x.l x.r x.v) 30)).alloc (by simp) (.cells (kc y.k y.o y.c y.l y.r y.v) 30), by omega, by simp, fun b hm => by
    rcases List.mem_cons.1 hm with rfl | hm
    · exact ⟨by simp, (Blk.new w 30 _).alloc _⟩
    · obtain rfl := List.mem_singleton.1 hm
      exact ⟨by simp, Blk.new_of (w.alloc (.cells (kc x.k x.o x.c x.l x.r x.v) 30)) 30 _ (g := w.heap.size + 1) (by simp)⟩⟩)
  obtain ⟨c0, c1, c2, c3, c4, c5⟩ := (HKB.out.blk _ List.mem_cons_self).2.six
  obtain ⟨d0, d1, d2, d3, d4, d5⟩ := (HKB.out.blk _ (List.mem_cons_of_mem _ List.mem_cons_self)).2.six
  go_enter Tryd.func15, Tryd.ntmps15
  go_wp2_with fail
  refine region_pg (fun ac g9 => (((((((((ac.put (some 11) (pv p)).put (some 12) x.val).put (some 13) (.agg (spn 0 64))).put (some 14) (.tuple #[.agg (pgc p x.o u).toArray, .int .i64 0])).put (some 10) (.tuple #[.agg (pgc p x.o u).toArray, .int .i64 0])).put (some 15) (.agg (pgc p x.o u).toArray)).put (some 16) (.int .i64 0)).put (some 7) (.pointer (some ⟨g9, 0, none⟩))).put (some 8) (.int .i64 0))) (fun g9 W => Kb w [(w.heap.size, 30, kc x.k x.o x.c x.l x.r x.v), (w.heap.size + 1, 30, kc y.k y.o y.c y.l y.r y.v)] (w.heap.size + 2) W ∧ Blk W g9 72 (pgc p x.o u).toArray ∧ w.heap.size + 2 ≤ g9) ?mkC ?restC
  case mkC =>
    refine wp_region_only (S := fun W => KeyAt W w.heap.size 0 x) (by kernel_rfl) (Blk.katG (HKB.out.drew.blk _ List.mem_cons_self).2) (fun hHeld => ?_)
    refine wpAnyH_take (i := 0) (v := ?v40) rfl (by kernel_rfl) (by kernel_rfl) (by kernel_rfl) (fun _ _ _ h => h) (Or.inl ⟨by rfl, ?hy40⟩) hHeld ?rest40
    case hy40 =>
      intro w' hSw
      try dsimp only at hSw
      go_simp
      first | done | with_reducible rfl
    try simp only [Act.put, List.getElem_toArray, List.getElem_cons_zero, List.setIfInBounds_toArray, List.set_cons_zero, List.set_cons_succ]
    refine wpAnyH_take (i := 1) rfl (by kernel_rfl) (by kernel_rfl) (by kernel_rfl) (fun _ _ _ h => h) (y_kyG (by rfl) (.tmp 4) (by rfl) w.heap.size 0 (by rfl) x (fun _ h => h)) hHeld ?_
    try simp only [Act.put, List.getElem_toArray, List.getElem_cons_succ, List.getElem_cons_zero, List.setIfInBounds_toArray, List.set_cons_zero, List.set_cons_succ]
    refine wpAnyH_ready (rs := [2, 7]) (by kernel_rfl) (by simp) ?_
    refine AllReadyH.cons (by rfl) (fun K hK => ?_) (AllReadyH.cons (by rfl) (fun K hK => ?_) AllReadyH.nil)
    · go_simp
      refine (whole_any _).mono ?_
      rintro e_ rw25 ⟨rfl, c_⟩
      have RK25 := Lib.hid (HKB.out.drew.below c_)
      clear c_ hHeld
      go_wp2_with fail
      refine hK.out _ _ (Blk.katG (RK25.out.blk _ List.mem_cons_self).2) (fun hHeld => ?_)
      clear hK K
      try simp only [Act.put, List.getElem_toArray, List.getElem_cons_succ, List.getElem_cons_zero, List.setIfInBounds_toArray, List.set_cons_zero, List.set_cons_succ]
      refine wpAnyH_ready (rs := [3, 7]) (by kernel_rfl) (by simp) ?_
      refine AllReadyH.cons (by rfl) (fun K hK => ?_) (AllReadyH.cons (by rfl) (fun K hK => ?_) AllReadyH.nil)
      · go_simp
        refine (HASK.out _ RK25.out.bel).mono ?_
        rintro e_ rw26 ⟨rfl, c_⟩
        have RK26 := Lib.hid (RK25.out.below c_)
        clear c_ hHeld
        go_wp2_with fail
        refine hK.out _ _ (Blk.katG (RK26.out.blk _ List.mem_cons_self).2) (fun hHeld => ?_)
        clear hK K
        try simp only [Act.put, List.getElem_toArray, List.getElem_cons_succ, List.getElem_cons_zero, List.setIfInBounds_toArray, List.set_cons_zero, List.set_cons_succ]
        refine wpAnyH_take (i := 4) (v := ?v41) rfl (by kernel_rfl) (by kernel_rfl) (by kernel_rfl) (fun _ _ _ h => h) (Or.inl ⟨by rfl, ?hy41⟩) hHeld ?rest41
        case hy41 =>
          intro w' hSw
          try dsimp only at hSw
          go_simp
          first | done | with_reducible rfl
        try simp only [Act.put, List.getElem_toArray, List.getElem_cons_succ, List.getElem_cons_zero, List.setIfInBounds_toArray, List.set_cons_zero, List.set_cons_succ]
        refine wpAnyH_take (i := 5) (v := ?v42) rfl (by kernel_rfl) (by kernel_rfl) (by kernel_rfl) (fun _ _ _ h => h) (Or.inl ⟨by rfl, ?hy42⟩) hHeld ?rest42
        case hy42 =>
          intro w' hSw
          try dsimp only at hSw
          go_simp
          first | done | with_reducible rfl
        try simp only [Act.put, List.getElem_toArray, List.getElem_cons_succ, List.getElem_cons_zero, List.setIfInBounds_toArray, List.set_cons_zero, List.set_cons_succ]
        refine wpAnyH_take (i := 6) (v := ?v43) rfl (by kernel_rfl) (by kernel_rfl) (by kernel_rfl) (fun _ _ _ h => h) (Or.inl ⟨by rfl, ?hy43⟩) hHeld ?rest43
        case hy43 =>
          intro w' hSw
          try dsimp only at hSw
          go_simp
          first | done | with_reducible rfl
        try simp only [Act.put, List.getElem_toArray, List.getElem_cons_succ, List.getElem_cons_zero, List.setIfInBounds_toArray, List.set_cons_zero, List.set_cons_succ]
        refine wpAnyH_ready (rs := [7]) (by kernel_rfl) (by simp) ?_
        refine AllReadyH.cons (by rfl) (fun K hK => ?_) AllReadyH.nil
        · refine step_alloc72 rfl (by rfl) ?_
          intro g9 rw27 hg hw
          have RK27 : Hid (Kb w _ _ rw27) := Lib.hid (by subst hw; exact RK26.out.alloc _)
          have HGE9 : Hid (w.heap.size + 2 ≤ g9) := Lib.hid (by subst hg; exact RK26.out.sz)
          have RG27 : Hid (Blk rw27 g9 72 zpgc.toArray) := Lib.hid (by subst hw hg; exact Blk.new _ _ _)
          clear hg hw hHeld
          refine hK.out _ _ (Blk.katG (RK27.out.blk _ List.mem_cons_self).2) (fun hHeld => ?_)
          clear hK K
          try simp only [Act.put, List.getElem_toArray, List.getElem_cons_succ, List.getElem_cons_zero, List.setIfInBounds_toArray, List.set_cons_zero, List.set_cons_succ]
          refine wpAnyH_ready (rs := [8]) (by kernel_rfl) (by simp) ?_
          refine AllReadyH.cons (by rfl) (fun K hK => ?_) AllReadyH.nil
          refine step_store_pg RG27.out rfl (.tmp 7) (.tmp 15) (by rfl) (by rfl) (pgc p x.o u) (by rfl) (pgc_len _ _ _) (pgc_one _ _ _) ?_
          have SK := Lib.hid (RK27.out.set HGE9.out (pgc p x.o u).toArray)
          have SG := Lib.hid (Blk.setRow RG27.out (pgc p x.o u).toArray)
          generalize rw27.setRow g9 (pgc p x.o u).toArray = SW at SK SG ⊢
          refine hK.out _ _ (Blk.katG (SK.out.blk _ List.mem_cons_self).2) (fun hHeld => ?_)
          clear hK K
          try simp only [Act.put, List.getElem_toArray, List.getElem_cons_succ, List.getElem_cons_zero]
          refine wpAnyH_take (i := 9) (v := ?v44) rfl (by kernel_rfl) (by kernel_rfl) (by kernel_rfl) (fun _ _ _ h => h) (Or.inl ⟨by rfl, ?hy44⟩) hHeld ?rest44
          case hy44 =>
            intro w' hSw
            try dsimp only at hSw
            go_simp
            first | done | with_reducible rfl
          try simp only [Act.put, List.getElem_toArray, List.getElem_cons_succ, List.getElem_cons_zero, List.setIfInBounds_toArray, List.set_cons_zero, List.set_cons_succ]
          refine wpAnyH_done (by kernel_rfl) ?_ _
          refine OnlyN.normal ?_
          exact ⟨g9, rfl, rfl, SK.out, SG.out, HGE9.out⟩
      · refine step_alloc72 rfl (by rfl) ?_
        intro g9 rw28 hg hw
        have RK28 : Hid (Kb w _ _ rw28) := Lib.hid (by subst hw; exact RK25.out.alloc _)
        have HGE9 : Hid (w.heap.size + 2 ≤ g9) := Lib.hid (by subst hg; exact RK25.out.sz)
        have RG28 : Hid (Blk rw28 g9 72 zpgc.toArray) := Lib.hid (by subst hw hg; exact Blk.new _ _ _)
        clear hg hw hHeld
        refine hK.out _ _ (Blk.katG (RK28.out.blk _ List.mem_cons_self).2) (fun hHeld => ?_)
        clear hK K
        try simp only [Act.put, List.getElem_toArray, List.getElem_cons_succ, List.getElem_cons_zero, List.setIfInBounds_toArray, List.set_cons_zero, List.set_cons_succ]
        refine wpAnyH_ready (rs := [3]) (by kernel_rfl) (by simp) ?_
        refine AllReadyH.cons (by rfl) (fun K hK => ?_) AllReadyH.nil
        · go_simp
          refine (HASK.out _ RK28.out.bel).mono ?_
          rintro e_ rw29 ⟨rfl, c_⟩
          have RK29 := Lib.hid (RK28.out.below c_)
          have RG29 := Lib.hid (RG28.out.keep c_)
          clear c_ hHeld
          go_wp2_with fail
          refine hK.out _ _ (Blk.katG (RK29.out.blk _ List.mem_cons_self).2) (fun hHeld => ?_)
          clear hK K
          try simp only [Act.put, List.getElem_toArray, List.getElem_cons_succ, List.getElem_cons_zero, List.setIfInBounds_toArray, List.set_cons_zero, List.set_cons_succ]
          refine wpAnyH_take (i := 4) (v := ?v45) rfl (by kernel_rfl) (by kernel_rfl) (by kernel_rfl) (fun _ _ _ h => h) (Or.inl ⟨by rfl, ?hy45⟩) hHeld ?rest45
          case hy45 =>
            intro w' hSw
            try dsimp only at hSw
            go_simp
            first | done | with_reducible rfl
          try simp only [Act.put, List.getElem_toArray, List.getElem_cons_succ, List.getElem_cons_zero, List.setIfInBounds_toArray, List.set_cons_zero, List.set_cons_succ]
          refine wpAnyH_take (i := 5) (v := ?v46) rfl (by kernel_rfl) (by kernel_rfl) (by kernel_rfl) (fun _ _ _ h => h) (Or.inl ⟨by rfl, ?hy46⟩) hHeld ?rest46
          case hy46 =>
            intro w' hSw
            try dsimp only at hSw
            go_simp
            first | done | with_reducible rfl
          try simp only [Act.put, List.getElem_toArray, List.getElem_cons_succ, List.getElem_cons_zero, List.setIfInBounds_toArray, List.set_cons_zero, List.set_cons_succ]
          refine wpAnyH_take (i := 6) (v := ?v47) rfl (by kernel_rfl) (by kernel_rfl) (by kernel_rfl) (fun _ _ _ h => h) (Or.inl ⟨by rfl, ?hy47⟩) hHeld ?rest47
          case hy47 =>
            intro w' hSw
            try dsimp only at hSw
            go_simp
            first | done | with_reducible rfl
          try simp only [Act.put, List.getElem_toArray, List.getElem_cons_succ, List.getElem_cons_zero, List.setIfInBounds_toArray, List.set_cons_zero, List.set_cons_succ]
          refine wpAnyH_ready (rs := [8]) (by kernel_rfl) (by simp) ?_
          refine AllReadyH.cons (by rfl) (fun K hK => ?_) AllReadyH.nil
          refine step_store_pg RG29.out rfl (.tmp 7) (.tmp 15) (by rfl) (by rfl) (pgc p x.o u) (by rfl) (pgc_len _ _ _) (pgc_one _ _ _) ?_
          have SK := Lib.hid (RK29.out.set HGE9.out (pgc p x.o u).toArray)
          have SG := Lib.hid (Blk.setRow RG29.out (pgc p x.o u).toArray)
          generalize rw29.setRow g9 (pgc p x.o u).toArray = SW at SK SG ⊢
          refine hK.out _ _ (Blk.katG (SK.out.blk _ List.mem_cons_self).2) (fun hHeld => ?_)
          clear hK K
          try simp only [Act.put, List.getElem_toArray, List.getElem_cons_succ, List.getElem_cons_zero]
          refine wpAnyH_take (i := 9) (v := ?v48) rfl (by kernel_rfl) (by kernel_rfl) (by kernel_rfl) (fun _ _ _ h => h) (Or.inl ⟨by rfl, ?hy48⟩) hHeld ?rest48
          case hy48 =>
            intro w' hSw
            try dsimp only at hSw
            go_simp
            first | done | with_reducible rfl
          try simp only [Act.put, List.getElem_toArray, List.getElem_cons_succ, List.getElem_cons_zero, List.setIfInBounds_toArray, List.set_cons_zero, List.set_cons_succ]
          refine wpAnyH_done (by kernel_rfl) ?_ _
          refine OnlyN.normal ?_
          exact ⟨g9, rfl, rfl, SK.out, SG.out, HGE9.out⟩
    · refine step_alloc72 rfl (by rfl) ?_
      intro g9 rw30 hg hw
      have RK30 : Hid (Kb w _ _ rw30) := Lib.hid (by subst hw; exact HKB.out.drew.alloc _)
      have HGE9 : Hid (w.heap.size + 2 ≤ g9) := Lib.hid (by subst hg; exact HKB.out.drew.sz)
      have RG30 : Hid (Blk rw30 g9 72 zpgc.toArray) := Lib.hid (by subst hw hg; exact Blk.new _ _ _)
      clear hg hw hHeld
      refine hK.out _ _ (Blk.katG (RK30.out.blk _ List.mem_cons_self).2) (fun hHeld => ?_)
      clear hK K
      try simp only [Act.put, List.getElem_toArray, List.getElem_cons_succ, List.getElem_cons_zero, List.setIfInBounds_toArray, List.set_cons_zero, List.set_cons_succ]
      refine wpAnyH_ready (rs := [2]) (by kernel_rfl) (by simp) ?_
      refine AllReadyH.cons (by rfl) (fun K hK => ?_) AllReadyH.nil
      · go_simp
        refine (whole_any _).mono ?_
        rintro e_ rw31 ⟨rfl, c_⟩
        have RK31 := Lib.hid (RK30.out.below c_)
        have RG31 := Lib.hid (RG30.out.keep c_)
        clear c_ hHeld
        go_wp2_with fail
        refine hK.out _ _ (Blk.katG (RK31.out.blk _ List.mem_cons_self).2) (fun hHeld => ?_)
        clear hK K
        try simp only [Act.put, List.getElem_toArray, List.getElem_cons_succ, List.getElem_cons_zero, List.setIfInBounds_toArray, List.set_cons_zero, List.set_cons_succ]
        refine wpAnyH_ready (rs := [3]) (by kernel_rfl) (by simp) ?_
        refine AllReadyH.cons (by rfl) (fun K hK => ?_) AllReadyH.nil
        · go_simp
          refine (HASK.out _ RK31.out.bel).mono ?_
          rintro e_ rw32 ⟨rfl, c_⟩
          have RK32 := Lib.hid (RK31.out.below c_)
          have RG32 := Lib.hid (RG31.out.keep c_)
          clear c_ hHeld
          go_wp2_with fail
          refine hK.out _ _ (Blk.katG (RK32.out.blk _ List.mem_cons_self).2) (fun hHeld => ?_)
          clear hK K
          try simp only [Act.put, List.getElem_toArray, List.getElem_cons_succ, List.getElem_cons_zero, List.setIfInBounds_toArray, List.set_cons_zero, List.set_cons_succ]
          refine wpAnyH_take (i := 4) (v := ?v49) rfl (by kernel_rfl) (by kernel_rfl) (by kernel_rfl) (fun _ _ _ h => h) (Or.inl ⟨by rfl, ?hy49⟩) hHeld ?rest49
          case hy49 =>
            intro w' hSw
            try dsimp only at hSw
            go_simp
            first | done | with_reducible rfl
          try simp only [Act.put, List.getElem_toArray, List.getElem_cons_succ, List.getElem_cons_zero, List.setIfInBounds_toArray, List.set_cons_zero, List.set_cons_succ]
          refine wpAnyH_take (i := 5) (v := ?v50) rfl (by kernel_rfl) (by kernel_rfl) (by kernel_rfl) (fun _ _ _ h => h) (Or.inl ⟨by rfl, ?hy50⟩) hHeld ?rest50
          case hy50 =>
            intro w' hSw
            try dsimp only at hSw
            go_simp
            first | done | with_reducible rfl
          try simp only [Act.put, List.getElem_toArray, List.getElem_cons_succ, List.getElem_cons_zero, List.setIfInBounds_toArray, List.set_cons_zero, List.set_cons_succ]
          refine wpAnyH_take (i := 6) (v := ?v51) rfl (by kernel_rfl) (by kernel_rfl) (by kernel_rfl) (fun _ _ _ h => h) (Or.inl ⟨by rfl, ?hy51⟩) hHeld ?rest51
          case hy51 =>
            intro w' hSw
            try dsimp only at hSw
            go_simp
            first | done | with_reducible rfl
          try simp only [Act.put, List.getElem_toArray, List.getElem_cons_succ, List.getElem_cons_zero, List.setIfInBounds_toArray, List.set_cons_zero, List.set_cons_succ]
          refine wpAnyH_ready (rs := [8]) (by kernel_rfl) (by simp) ?_
          refine AllReadyH.cons (by rfl) (fun K hK => ?_) AllReadyH.nil
          refine step_store_pg RG32.out rfl (.tmp 7) (.tmp 15) (by rfl) (by rfl) (pgc p x.o u) (by rfl) (pgc_len _ _ _) (pgc_one _ _ _) ?_
          have SK := Lib.hid (RK32.out.set HGE9.out (pgc p x.o u).toArray)
          have SG := Lib.hid (Blk.setRow RG32.out (pgc p x.o u).toArray)
          generalize rw32.setRow g9 (pgc p x.o u).toArray = SW at SK SG ⊢
          refine hK.out _ _ (Blk.katG (SK.out.blk _ List.mem_cons_self).2) (fun hHeld => ?_)
          clear hK K
          try simp only [Act.put, List.getElem_toArray, List.getElem_cons_succ, List.getElem_cons_zero]
          refine wpAnyH_take (i := 9) (v := ?v52) rfl (by kernel_rfl) (by kernel_rfl) (by kernel_rfl) (fun _ _ _ h => h) (Or.inl ⟨by rfl, ?hy52⟩) hHeld ?rest52
          case hy52 =>
            intro w' hSw
            try dsimp only at hSw
            go_simp
            first | done | with_reducible rfl
          try simp only [Act.put, List.getElem_toArray, List.getElem_cons_succ, List.getElem_cons_zero, List.setIfInBounds_toArray, List.set_cons_zero, List.set_cons_succ]
          refine wpAnyH_done (by kernel_rfl) ?_ _
          refine OnlyN.normal ?_
          exact ⟨g9, rfl, rfl, SK.out, SG.out, HGE9.out⟩
  rintro g7 W7 ⟨hk, hg, hge⟩
  have HK7 := Lib.hid (hk.more hg)
  have HGE7 := Lib.hid hge
  clear hk hg hge HKB c0 c1 c2 c3 c4 c5 d0 d1 d2 d3 d4 d5
  obtain ⟨d0, d1, d2, d3, d4, d5⟩ := (HK7.out.blk _ (List.mem_cons_of_mem _ (List.mem_cons_of_mem _ List.mem_cons_self))).2.six
  obtain ⟨N7, hN7⟩ : ∃ N7, W7.heap.size = N7 := ⟨_, rfl⟩
  rw [hN7] at HK7
  have HNN := Lib.hid (show w.heap.size ≤ N7 from HK7.out.n0)
  clear hN7
  simp only [Act.put, List.setIfInBounds_toArray, List.set_cons_zero, List.set_cons_succ]
  go_wp2_with fail
  refine region_pg (fun ac g9 => (((((((((ac.put (some 21) (pv p)).put (some 22) y.val).put (some 23) (.agg (spn 0 64))).put (some 24) (.tuple #[.agg (zpgc).toArray, .int .i64 m])).put (some 20) (.tuple #[.agg (zpgc).toArray, .int .i64 m])).put (some 25) (.agg (zpgc).toArray)).put (some 26) (.int .i64 m)).put (some 9) (.pointer (some ⟨g9, 0, none⟩))).put (some 8) (.int .i64 m))) (fun g9 W => Kb w ((g7, 72, (pgc p x.o u).toArray) :: [(w.heap.size, 30, kc x.k x.o x.c x.l x.r x.v), (w.heap.size + 1, 30, kc y.k y.o y.c y.l y.r y.v)]) (N7) W ∧ Blk W g9 72 (zpgc).toArray ∧ N7 ≤ g9) ?mkD ?restD
  case mkD =>
    refine wp_region_only (S := fun W => KeyAt W (w.heap.size + 1) 0 y) (by kernel_rfl) (Blk.katG (HK7.out.drew.blk _ (List.mem_cons_of_mem _ (List.mem_cons_of_mem _ List.mem_cons_self))).2) (fun hHeld => ?_)
    refine wpAnyH_take (i := 0) (v := ?v53) rfl (by kernel_rfl) (by kernel_rfl) (by kernel_rfl) (fun _ _ _ h => h) (Or.inl ⟨by rfl, ?hy53⟩) hHeld ?rest53
    case hy53 =>
      intro w' hSw
      try dsimp only at hSw
      go_simp
      first | done | with_reducible rfl
    try simp only [Act.put, List.getElem_toArray, List.getElem_cons_zero, List.setIfInBounds_toArray, List.set_cons_zero, List.set_cons_succ]
    refine wpAnyH_take (i := 1) rfl (by kernel_rfl) (by kernel_rfl) (by kernel_rfl) (fun _ _ _ h => h) (y_kyG (by rfl) (.tmp 5) (by rfl) (w.heap.size + 1) 0 (by rfl) y (fun _ h => h)) hHeld ?_
    try simp only [Act.put, List.getElem_toArray, List.getElem_cons_succ, List.getElem_cons_zero, List.setIfInBounds_toArray, List.set_cons_zero, List.set_cons_succ]
    refine wpAnyH_ready (rs := [2, 7]) (by kernel_rfl) (by simp) ?_
    refine AllReadyH.cons (by rfl) (fun K hK => ?_) (AllReadyH.cons (by rfl) (fun K hK => ?_) AllReadyH.nil)
    · go_simp
      refine (whole_any _).mono ?_
      rintro e_ rw33 ⟨rfl, c_⟩
      have RK33 := Lib.hid (HK7.out.drew.below c_)
      clear c_ hHeld
      go_wp2_with fail
      refine hK.out _ _ (Blk.katG (RK33.out.blk _ (List.mem_cons_of_mem _ (List.mem_cons_of_mem _ List.mem_cons_self))).2) (fun hHeld => ?_)
      clear hK K
      try simp only [Act.put, List.getElem_toArray, List.getElem_cons_succ, List.getElem_cons_zero, List.setIfInBounds_toArray, List.set_cons_zero, List.set_cons_succ]
      refine wpAnyH_ready (rs := [3, 7]) (by kernel_rfl) (by simp) ?_
      refine AllReadyH.cons (by rfl) (fun K hK => ?_) (AllReadyH.cons (by rfl) (fun K hK => ?_) AllReadyH.nil)
      · go_simp
        refine (HASK2.out _ RK33.out.bel).mono ?_
        rintro e_ rw34 ⟨rfl, c_⟩
        have RK34 := Lib.hid (RK33.out.below c_)
        clear c_ hHeld
        go_wp2_with fail
        refine hK.out _ _ (Blk.katG (RK34.out.blk _ (List.mem_cons_of_mem _ (List.mem_cons_of_mem _ List.mem_cons_self))).2) (fun hHeld => ?_)
        clear hK K
        try simp only [Act.put, List.getElem_toArray, List.getElem_cons_succ, List.getElem_cons_zero, List.setIfInBounds_toArray, List.set_cons_zero, List.set_cons_succ]
        refine wpAnyH_take (i := 4) (v := ?v54) rfl (by kernel_rfl) (by kernel_rfl) (by kernel_rfl) (fun _ _ _ h => h) (Or.inl ⟨by rfl, ?hy54⟩) hHeld ?rest54
        case hy54 =>
          intro w' hSw
          try dsimp only at hSw
          go_simp
          first | done | with_reducible rfl
        try simp only [Act.put, List.getElem_toArray, List.getElem_cons_succ, List.getElem_cons_zero, List.setIfInBounds_toArray, List.set_cons_zero, List.set_cons_succ]
        refine wpAnyH_take (i := 5) (v := ?v55) rfl (by kernel_rfl) (by kernel_rfl) (by kernel_rfl) (fun _ _ _ h => h) (Or.inl ⟨by rfl, ?hy55⟩) hHeld ?rest55
        case hy55 =>
          intro w' hSw
          try dsimp only at hSw
          go_simp
          first | done | with_reducible rfl
        try simp only [Act.put, List.getElem_toArray, List.getElem_cons_succ, List.getElem_cons_zero, List.setIfInBounds_toArray, List.set_cons_zero, List.set_cons_succ]
        refine wpAnyH_take (i := 6) (v := ?v56) rfl (by kernel_rfl) (by kernel_rfl) (by kernel_rfl) (fun _ _ _ h => h) (Or.inl ⟨by rfl, ?hy56⟩) hHeld ?rest56
        case hy56 =>
          intro w' hSw
          try dsimp only at hSw
          go_simp
          first | done | with_reducible rfl
        try simp only [Act.put, List.getElem_toArray, List.getElem_cons_succ, List.getElem_cons_zero, List.setIfInBounds_toArray, List.set_cons_zero, List.set_cons_succ]
        refine wpAnyH_ready (rs := [7]) (by kernel_rfl) (by simp) ?_
        refine AllReadyH.cons (by rfl) (fun K hK => ?_) AllReadyH.nil
        · refine step_alloc72 rfl (by rfl) ?_
          intro g9 rw35 hg hw
          have RK35 : Hid (Kb w _ _ rw35) := Lib.hid (by subst hw; exact RK34.out.alloc _)
          have HGE9 : Hid (N7 ≤ g9) := Lib.hid (by subst hg; exact RK34.out.sz)
          have RG35 : Hid (Blk rw35 g9 72 zpgc.toArray) := Lib.hid (by subst hw hg; exact Blk.new _ _ _)
          clear hg hw hHeld
          refine hK.out _ _ (Blk.katG (RK35.out.blk _ (List.mem_cons_of_mem _ (List.mem_cons_of_mem _ List.mem_cons_self))).2) (fun hHeld => ?_)
          clear hK K
          try simp only [Act.put, List.getElem_toArray, List.getElem_cons_succ, List.getElem_cons_zero, List.setIfInBounds_toArray, List.set_cons_zero, List.set_cons_succ]
          refine wpAnyH_ready (rs := [8]) (by kernel_rfl) (by simp) ?_
          refine AllReadyH.cons (by rfl) (fun K hK => ?_) AllReadyH.nil
          refine step_store_pg RG35.out rfl (.tmp 9) (.tmp 25) (by rfl) (by rfl) (zpgc) (by rfl) zpgc_len zpgc_one ?_
          have SK := Lib.hid (RK35.out.set HGE9.out (zpgc).toArray)
          have SG := Lib.hid (Blk.setRow RG35.out (zpgc).toArray)
          generalize rw35.setRow g9 (zpgc).toArray = SW at SK SG ⊢
          refine hK.out _ _ (Blk.katG (SK.out.blk _ (List.mem_cons_of_mem _ (List.mem_cons_of_mem _ List.mem_cons_self))).2) (fun hHeld => ?_)
          clear hK K
          try simp only [Act.put, List.getElem_toArray, List.getElem_cons_succ, List.getElem_cons_zero]
          refine wpAnyH_take (i := 9) (v := ?v57) rfl (by kernel_rfl) (by kernel_rfl) (by kernel_rfl) (fun _ _ _ h => h) (Or.inl ⟨by rfl, ?hy57⟩) hHeld ?rest57
          case hy57 =>
            intro w' hSw
            try dsimp only at hSw
            go_simp
            first | done | with_reducible rfl
          try simp only [Act.put, List.getElem_toArray, List.getElem_cons_succ, List.getElem_cons_zero, List.setIfInBounds_toArray, List.set_cons_zero, List.set_cons_succ]
          refine wpAnyH_done (by kernel_rfl) ?_ _
          refine OnlyN.normal ?_
          exact ⟨g9, rfl, rfl, SK.out, SG.out, HGE9.out⟩
      · refine step_alloc72 rfl (by rfl) ?_
        intro g9 rw36 hg hw
        have RK36 : Hid (Kb w _ _ rw36) := Lib.hid (by subst hw; exact RK33.out.alloc _)
        have HGE9 : Hid (N7 ≤ g9) := Lib.hid (by subst hg; exact RK33.out.sz)
        have RG36 : Hid (Blk rw36 g9 72 zpgc.toArray) := Lib.hid (by subst hw hg; exact Blk.new _ _ _)
        clear hg hw hHeld
        refine hK.out _ _ (Blk.katG (RK36.out.blk _ (List.mem_cons_of_mem _ (List.mem_cons_of_mem _ List.mem_cons_self))).2) (fun hHeld => ?_)
        clear hK K
        try simp only [Act.put, List.getElem_toArray, List.getElem_cons_succ, List.getElem_cons_zero, List.setIfInBounds_toArray, List.set_cons_zero, List.set_cons_succ]
        refine wpAnyH_ready (rs := [3]) (by kernel_rfl) (by simp) ?_
        refine AllReadyH.cons (by rfl) (fun K hK => ?_) AllReadyH.nil
        · go_simp
          refine (HASK2.out _ RK36.out.bel).mono ?_
          rintro e_ rw37 ⟨rfl, c_⟩
          have RK37 := Lib.hid (RK36.out.below c_)
          have RG37 := Lib.hid (RG36.out.keep c_)
          clear c_ hHeld
          go_wp2_with fail
          refine hK.out _ _ (Blk.katG (RK37.out.blk _ (List.mem_cons_of_mem _ (List.mem_cons_of_mem _ List.mem_cons_self))).2) (fun hHeld => ?_)
          clear hK K
          try simp only [Act.put, List.getElem_toArray, List.getElem_cons_succ, List.getElem_cons_zero, List.setIfInBounds_toArray, List.set_cons_zero, List.set_cons_succ]
          refine wpAnyH_take (i := 4) (v := ?v58) rfl (by kernel_rfl) (by kernel_rfl) (by kernel_rfl) (fun _ _ _ h => h) (Or.inl ⟨by rfl, ?hy58⟩) hHeld ?rest58
          case hy58 =>
            intro w' hSw
            try dsimp only at hSw
            go_simp
            first | done | with_reducible rfl
          try simp only [Act.put, List.getElem_toArray, List.getElem_cons_succ, List.getElem_cons_zero, List.setIfInBounds_toArray, List.set_cons_zero, List.set_cons_succ]
          refine wpAnyH_take (i := 5) (v := ?v59) rfl (by kernel_rfl) (by kernel_rfl) (by kernel_rfl) (fun _ _ _ h => h) (Or.inl ⟨by rfl, ?hy59⟩) hHeld ?rest59
          case hy59 =>
            intro w' hSw
            try dsimp only at hSw
            go_simp
            first | done | with_reducible rfl
          try simp only [Act.put, List.getElem_toArray, List.getElem_cons_succ, List.getElem_cons_zero, List.setIfInBounds_toArray, List.set_cons_zero, List.set_cons_succ]
          refine wpAnyH_take (i := 6) (v := ?v60) rfl (by kernel_rfl) (by kernel_rfl) (by kernel_rfl) (fun _ _ _ h => h) (Or.inl ⟨by rfl, ?hy60⟩) hHeld ?rest60
          case hy60 =>
            intro w' hSw
            try dsimp only at hSw
            go_simp
            first | done | with_reducible rfl
          try simp only [Act.put, List.getElem_toArray, List.getElem_cons_succ, List.getElem_cons_zero, List.setIfInBounds_toArray, List.set_cons_zero, List.set_cons_succ]
          refine wpAnyH_ready (rs := [8]) (by kernel_rfl) (by simp) ?_
          refine AllReadyH.cons (by rfl) (fun K hK => ?_) AllReadyH.nil
          refine step_store_pg RG37.out rfl (.tmp 9) (.tmp 25) (by rfl) (by rfl) (zpgc) (by rfl) zpgc_len zpgc_one ?_
          have SK := Lib.hid (RK37.out.set HGE9.out (zpgc).toArray)
          have SG := Lib.hid (Blk.setRow RG37.out (zpgc).toArray)
          generalize rw37.setRow g9 (zpgc).toArray = SW at SK SG ⊢
          refine hK.out _ _ (Blk.katG (SK.out.blk _ (List.mem_cons_of_mem _ (List.mem_cons_of_mem _ List.mem_cons_self))).2) (fun hHeld => ?_)
          clear hK K
          try simp only [Act.put, List.getElem_toArray, List.getElem_cons_succ, List.getElem_cons_zero]
          refine wpAnyH_take (i := 9) (v := ?v61) rfl (by kernel_rfl) (by kernel_rfl) (by kernel_rfl) (fun _ _ _ h => h) (Or.inl ⟨by rfl, ?hy61⟩) hHeld ?rest61
          case hy61 =>
            intro w' hSw
            try dsimp only at hSw
            go_simp
            first | done | with_reducible rfl
          try simp only [Act.put, List.getElem_toArray, List.getElem_cons_succ, List.getElem_cons_zero, List.setIfInBounds_toArray, List.set_cons_zero, List.set_cons_succ]
          refine wpAnyH_done (by kernel_rfl) ?_ _
          refine OnlyN.normal ?_
          exact ⟨g9, rfl, rfl, SK.out, SG.out, HGE9.out⟩
    · refine step_alloc72 rfl (by rfl) ?_
      intro g9 rw38 hg hw
      have RK38 : Hid (Kb w _ _ rw38) := Lib.hid (by subst hw; exact HK7.out.drew.alloc _)
      have HGE9 : Hid (N7 ≤ g9) := Lib.hid (by subst hg; exact HK7.out.drew.sz)
      have RG38 : Hid (Blk rw38 g9 72 zpgc.toArray) := Lib.hid (by subst hw hg; exact Blk.new _ _ _)
      clear hg hw hHeld
      refine hK.out _ _ (Blk.katG (RK38.out.blk _ (List.mem_cons_of_mem _ (List.mem_cons_of_mem _ List.mem_cons_self))).2) (fun hHeld => ?_)
      clear hK K
      try simp only [Act.put, List.getElem_toArray, List.getElem_cons_succ, List.getElem_cons_zero, List.setIfInBounds_toArray, List.set_cons_zero, List.set_cons_succ]
      refine wpAnyH_ready (rs := [2]) (by kernel_rfl) (by simp) ?_
      refine AllReadyH.cons (by rfl) (fun K hK => ?_) AllReadyH.nil
      · go_simp
        refine (whole_any _).mono ?_
        rintro e_ rw39 ⟨rfl, c_⟩
        have RK39 := Lib.hid (RK38.out.below c_)
        have RG39 := Lib.hid (RG38.out.keep c_)
        clear c_ hHeld
        go_wp2_with fail
        refine hK.out _ _ (Blk.katG (RK39.out.blk _ (List.mem_cons_of_mem _ (List.mem_cons_of_mem _ List.mem_cons_self))).2) (fun hHeld => ?_)
        clear hK K
        try simp only [Act.put, List.getElem_toArray, List.getElem_cons_succ, List.getElem_cons_zero, List.setIfInBounds_toArray, List.set_cons_zero, List.set_cons_succ]
        refine wpAnyH_ready (rs := [3]) (by kernel_rfl) (by simp) ?_
        refine AllReadyH.cons (by rfl) (fun K hK => ?_) AllReadyH.nil
        · go_simp
          refine (HASK2.out _ RK39.out.bel).mono ?_
          rintro e_ rw40 ⟨rfl, c_⟩
          have RK40 := Lib.hid (RK39.out.below c_)
          have RG40 := Lib.hid (RG39.out.keep c_)
          clear c_ hHeld
          go_wp2_with fail
          refine hK.out _ _ (Blk.katG (RK40.out.blk _ (List.mem_cons_of_mem _ (List.mem_cons_of_mem _ List.mem_cons_self))).2) (fun hHeld => ?_)
          clear hK K
          try simp only [Act.put, List.getElem_toArray, List.getElem_cons_succ, List.getElem_cons_zero, List.setIfInBounds_toArray, List.set_cons_zero, List.set_cons_succ]
          refine wpAnyH_take (i := 4) (v := ?v62) rfl (by kernel_rfl) (by kernel_rfl) (by kernel_rfl) (fun _ _ _ h => h) (Or.inl ⟨by rfl, ?hy62⟩) hHeld ?rest62
          case hy62 =>
            intro w' hSw
            try dsimp only at hSw
            go_simp
            first | done | with_reducible rfl
          try simp only [Act.put, List.getElem_toArray, List.getElem_cons_succ, List.getElem_cons_zero, List.setIfInBounds_toArray, List.set_cons_zero, List.set_cons_succ]
          refine wpAnyH_take (i := 5) (v := ?v63) rfl (by kernel_rfl) (by kernel_rfl) (by kernel_rfl) (fun _ _ _ h => h) (Or.inl ⟨by rfl, ?hy63⟩) hHeld ?rest63
          case hy63 =>
            intro w' hSw
            try dsimp only at hSw
            go_simp
            first | done | with_reducible rfl
          try simp only [Act.put, List.getElem_toArray, List.getElem_cons_succ, List.getElem_cons_zero, List.setIfInBounds_toArray, List.set_cons_zero, List.set_cons_succ]
          refine wpAnyH_take (i := 6) (v := ?v64) rfl (by kernel_rfl) (by kernel_rfl) (by kernel_rfl) (fun _ _ _ h => h) (Or.inl ⟨by rfl, ?hy64⟩) hHeld ?rest64
          case hy64 =>
            intro w' hSw
            try dsimp only at hSw
            go_simp
            first | done | with_reducible rfl
          try simp only [Act.put, List.getElem_toArray, List.getElem_cons_succ, List.getElem_cons_zero, List.setIfInBounds_toArray, List.set_cons_zero, List.set_cons_succ]
          refine wpAnyH_ready (rs := [8]) (by kernel_rfl) (by simp) ?_
          refine AllReadyH.cons (by rfl) (fun K hK => ?_) AllReadyH.nil
          refine step_store_pg RG40.out rfl (.tmp 9) (.tmp 25) (by rfl) (by rfl) (zpgc) (by rfl) zpgc_len zpgc_one ?_
          have SK := Lib.hid (RK40.out.set HGE9.out (zpgc).toArray)
          have SG := Lib.hid (Blk.setRow RG40.out (zpgc).toArray)
          generalize rw40.setRow g9 (zpgc).toArray = SW at SK SG ⊢
          refine hK.out _ _ (Blk.katG (SK.out.blk _ (List.mem_cons_of_mem _ (List.mem_cons_of_mem _ List.mem_cons_self))).2) (fun hHeld => ?_)
          clear hK K
          try simp only [Act.put, List.getElem_toArray, List.getElem_cons_succ, List.getElem_cons_zero]
          refine wpAnyH_take (i := 9) (v := ?v65) rfl (by kernel_rfl) (by kernel_rfl) (by kernel_rfl) (fun _ _ _ h => h) (Or.inl ⟨by rfl, ?hy65⟩) hHeld ?rest65
          case hy65 =>
            intro w' hSw
            try dsimp only at hSw
            go_simp
            first | done | with_reducible rfl
          try simp only [Act.put, List.getElem_toArray, List.getElem_cons_succ, List.getElem_cons_zero, List.setIfInBounds_toArray, List.set_cons_zero, List.set_cons_succ]
          refine wpAnyH_done (by kernel_rfl) ?_ _
          refine OnlyN.normal ?_
          exact ⟨g9, rfl, rfl, SK.out, SG.out, HGE9.out⟩
  rintro g9 W ⟨hk, hg, hge⟩
  have HK := Lib.hid hk.bel
  clear hk hg hge HK7 d0 d1 d2 d3 d4 d5
  simp only [Act.put, List.setIfInBounds_toArray, List.set_cons_zero, List.set_cons_succ]
  go_wp2_with fail
  go_ret
  exact ⟨rfl, HK.out⟩
set_option maxRecDepth 100000 in
set_option maxHeartbeats 4000000 in
theorem ncopy_yes {w : World} {base p : Nat} {A : Option Addr} {cap : Nat} {ps : List Nat} {os : List Oj} (h : StAt w base p A cap ps os) (hT : Tab w) {u v : Oj} (x y : Ky) (j : Nat) (hj : j < os.length) (hxo : x.o = (j : Int)) (hok : (bAs u v.b v.hb).ok os.length) (hask : ∀ W, Below w.heap.size w W → Calls Tryd.prog 23 #[pv p, x.val, .bool true, .agg (spn 0 64)] W fun e w' => e = .returned (.tuple #[.agg (pgc p x.o u).toArray, .int .i64 0]) ∧ Below W.heap.size W w') (hask2 : ∀ W, Below w.heap.size w W → Calls Tryd.prog 23 #[pv p, y.val, .bool false, .agg (spn 0 64)] W fun e w' => e = .returned (.tuple #[.agg (pgc p y.o v).toArray, .int .i64 0]) ∧ Below W.heap.size W w') :
    Calls Tryd.prog 15 #[pv p, x.val, y.val] w fun e w' => e = .returned (.int .i64 0) ∧ StAt w' base p A cap ps (os.set j (bAs u v.b v.hb)) ∧ Fr (fun k => k ∈ ps) w w' := by
  have HASK := Lib.hid hask
  have HASK2 := Lib.hid hask2
  have HSS := Lib.hid h
  have HTT := Lib.hid hT
  have HLT := Lib.hid (fun (k : Nat) (hk : stHas p A ps k) => (h.lt k hk).2)
  have HJ := Lib.hid hj
  have HXO := Lib.hid hxo
  have HOK := Lib.hid hok
  clear hask hask2 h hT hj hxo hok
  have hz := z72
  have hbl := zpgc_len
  have HKB := Lib.hid (show Kb w [(w.heap.size, 30, kc x.k x.o x.c x.l x.r x.v), (w.heap.size + 1, 30, kc y.k y.o y.c y.l y.r y.v)] (w.heap.size + 2) ((w.alloc (.cells (kc x.k x.o x.c x.l x.r x.v) 30)).alloc (.cells (kc y.k y.o y.c y.l y.r y.v) 30)) from ⟨((Below.refl w.heap.size w).alloc (Nat.le_refl _) (.cells (kc x.k x.o x.c x.l x.r x.v) 30)).alloc (by simp) (.cells (kc y.k y.o y.c y.l y.r y.v) 30), by omega, by simp, fun b hm => by
    rcases List.mem_cons.1 hm with rfl | hm
    · exact ⟨by simp, (Blk.new w 30 _).alloc _⟩
    · obtain rfl := List.mem_singleton.1 hm
      exact ⟨by simp, Blk.new_of (w.alloc (.cells (kc x.k x.o x.c x.l x.r x.v) 30)) 30 _ (g := w.heap.size + 1) (by simp)⟩⟩)
  obtain ⟨c0, c1, c2, c3, c4, c5⟩ := (HKB.out.blk _ List.mem_cons_self).2.six
  obtain ⟨d0, d1, d2, d3, d4, d5⟩ := (HKB.out.blk _ (List.mem_cons_of_mem _ List.mem_cons_self)).2.six
  go_enter Tryd.func15, Tryd.ntmps15
  go_wp2_with fail
  refine region_pg (fun ac g9 => (((((((((ac.put (some 11) (pv p)).put (some 12) x.val).put (some 13) (.agg (spn 0 64))).put (some 14) (.tuple #[.agg (pgc p x.o u).toArray, .int .i64 0])).put (some 10) (.tuple #[.agg (pgc p x.o u).toArray, .int .i64 0])).put (some 15) (.agg (pgc p x.o u).toArray)).put (some 16) (.int .i64 0)).put (some 7) (.pointer (some ⟨g9, 0, none⟩))).put (some 8) (.int .i64 0))) (fun g9 W => Kb w [(w.heap.size, 30, kc x.k x.o x.c x.l x.r x.v), (w.heap.size + 1, 30, kc y.k y.o y.c y.l y.r y.v)] (w.heap.size + 2) W ∧ Blk W g9 72 (pgc p x.o u).toArray ∧ w.heap.size + 2 ≤ g9) ?mkC ?restC
  case mkC =>
    refine wp_region_only (S := fun W => KeyAt W w.heap.size 0 x) (by kernel_rfl) (Blk.katG (HKB.out.drew.blk _ List.mem_cons_self).2) (fun hHeld => ?_)
    refine wpAnyH_take (i := 0) (v := ?v66) rfl (by kernel_rfl) (by kernel_rfl) (by kernel_rfl) (fun _ _ _ h => h) (Or.inl ⟨by rfl, ?hy66⟩) hHeld ?rest66
    case hy66 =>
      intro w' hSw
      try dsimp only at hSw
      go_simp
      first | done | with_reducible rfl
    try simp only [Act.put, List.getElem_toArray, List.getElem_cons_zero, List.setIfInBounds_toArray, List.set_cons_zero, List.set_cons_succ]
    refine wpAnyH_take (i := 1) rfl (by kernel_rfl) (by kernel_rfl) (by kernel_rfl) (fun _ _ _ h => h) (y_kyG (by rfl) (.tmp 4) (by rfl) w.heap.size 0 (by rfl) x (fun _ h => h)) hHeld ?_
    try simp only [Act.put, List.getElem_toArray, List.getElem_cons_succ, List.getElem_cons_zero, List.setIfInBounds_toArray, List.set_cons_zero, List.set_cons_succ]
    refine wpAnyH_ready (rs := [2, 7]) (by kernel_rfl) (by simp) ?_
    refine AllReadyH.cons (by rfl) (fun K hK => ?_) (AllReadyH.cons (by rfl) (fun K hK => ?_) AllReadyH.nil)
    · go_simp
      refine (whole_any _).mono ?_
      rintro e_ rw41 ⟨rfl, c_⟩
      have RK41 := Lib.hid (HKB.out.drew.below c_)
      clear c_ hHeld
      go_wp2_with fail
      refine hK.out _ _ (Blk.katG (RK41.out.blk _ List.mem_cons_self).2) (fun hHeld => ?_)
      clear hK K
      try simp only [Act.put, List.getElem_toArray, List.getElem_cons_succ, List.getElem_cons_zero, List.setIfInBounds_toArray, List.set_cons_zero, List.set_cons_succ]
      refine wpAnyH_ready (rs := [3, 7]) (by kernel_rfl) (by simp) ?_
      refine AllReadyH.cons (by rfl) (fun K hK => ?_) (AllReadyH.cons (by rfl) (fun K hK => ?_) AllReadyH.nil)
      · go_simp
        refine (HASK.out _ RK41.out.bel).mono ?_
        rintro e_ rw42 ⟨rfl, c_⟩
        have RK42 := Lib.hid (RK41.out.below c_)
        clear c_ hHeld
        go_wp2_with fail
        refine hK.out _ _ (Blk.katG (RK42.out.blk _ List.mem_cons_self).2) (fun hHeld => ?_)
        clear hK K
        try simp only [Act.put, List.getElem_toArray, List.getElem_cons_succ, List.getElem_cons_zero, List.setIfInBounds_toArray, List.set_cons_zero, List.set_cons_succ]
        refine wpAnyH_take (i := 4) (v := ?v67) rfl (by kernel_rfl) (by kernel_rfl) (by kernel_rfl) (fun _ _ _ h => h) (Or.inl ⟨by rfl, ?hy67⟩) hHeld ?rest67
        case hy67 =>
          intro w' hSw
          try dsimp only at hSw
          go_simp
          first | done | with_reducible rfl
        try simp only [Act.put, List.getElem_toArray, List.getElem_cons_succ, List.getElem_cons_zero, List.setIfInBounds_toArray, List.set_cons_zero, List.set_cons_succ]
        refine wpAnyH_take (i := 5) (v := ?v68) rfl (by kernel_rfl) (by kernel_rfl) (by kernel_rfl) (fun _ _ _ h => h) (Or.inl ⟨by rfl, ?hy68⟩) hHeld ?rest68
        case hy68 =>
          intro w' hSw
          try dsimp only at hSw
          go_simp
          first | done | with_reducible rfl
        try simp only [Act.put, List.getElem_toArray, List.getElem_cons_succ, List.getElem_cons_zero, List.setIfInBounds_toArray, List.set_cons_zero, List.set_cons_succ]
        refine wpAnyH_take (i := 6) (v := ?v69) rfl (by kernel_rfl) (by kernel_rfl) (by kernel_rfl) (fun _ _ _ h => h) (Or.inl ⟨by rfl, ?hy69⟩) hHeld ?rest69
        case hy69 =>
          intro w' hSw
          try dsimp only at hSw
          go_simp
          first | done | with_reducible rfl
        try simp only [Act.put, List.getElem_toArray, List.getElem_cons_succ, List.getElem_cons_zero, List.setIfInBounds_toArray, List.set_cons_zero, List.set_cons_succ]
        refine wpAnyH_ready (rs := [7]) (by kernel_rfl) (by simp) ?_
        refine AllReadyH.cons (by rfl) (fun K hK => ?_) AllReadyH.nil
        · refine step_alloc72 rfl (by rfl) ?_
          intro g9 rw43 hg hw
          have RK43 : Hid (Kb w _ _ rw43) := Lib.hid (by subst hw; exact RK42.out.alloc _)
          have HGE9 : Hid (w.heap.size + 2 ≤ g9) := Lib.hid (by subst hg; exact RK42.out.sz)
          have RG43 : Hid (Blk rw43 g9 72 zpgc.toArray) := Lib.hid (by subst hw hg; exact Blk.new _ _ _)
          clear hg hw hHeld
          refine hK.out _ _ (Blk.katG (RK43.out.blk _ List.mem_cons_self).2) (fun hHeld => ?_)
          clear hK K
          try simp only [Act.put, List.getElem_toArray, List.getElem_cons_succ, List.getElem_cons_zero, List.setIfInBounds_toArray, List.set_cons_zero, List.set_cons_succ]
          refine wpAnyH_ready (rs := [8]) (by kernel_rfl) (by simp) ?_
          refine AllReadyH.cons (by rfl) (fun K hK => ?_) AllReadyH.nil
          refine step_store_pg RG43.out rfl (.tmp 7) (.tmp 15) (by rfl) (by rfl) (pgc p x.o u) (by rfl) (pgc_len _ _ _) (pgc_one _ _ _) ?_
          have SK := Lib.hid (RK43.out.set HGE9.out (pgc p x.o u).toArray)
          have SG := Lib.hid (Blk.setRow RG43.out (pgc p x.o u).toArray)
          generalize rw43.setRow g9 (pgc p x.o u).toArray = SW at SK SG ⊢
          refine hK.out _ _ (Blk.katG (SK.out.blk _ List.mem_cons_self).2) (fun hHeld => ?_)
          clear hK K
          try simp only [Act.put, List.getElem_toArray, List.getElem_cons_succ, List.getElem_cons_zero]
          refine wpAnyH_take (i := 9) (v := ?v70) rfl (by kernel_rfl) (by kernel_rfl) (by kernel_rfl) (fun _ _ _ h => h) (Or.inl ⟨by rfl, ?hy70⟩) hHeld ?rest70
          case hy70 =>
            intro w' hSw
            try dsimp only at hSw
            go_simp
            first | done | with_reducible rfl
          try simp only [Act.put, List.getElem_toArray, List.getElem_cons_succ, List.getElem_cons_zero, List.setIfInBounds_toArray, List.set_cons_zero, List.set_cons_succ]
          refine wpAnyH_done (by kernel_rfl) ?_ _
          refine OnlyN.normal ?_
          exact ⟨g9, rfl, rfl, SK.out, SG.out, HGE9.out⟩
      · refine step_alloc72 rfl (by rfl) ?_
        intro g9 rw44 hg hw
        have RK44 : Hid (Kb w _ _ rw44) := Lib.hid (by subst hw; exact RK41.out.alloc _)
        have HGE9 : Hid (w.heap.size + 2 ≤ g9) := Lib.hid (by subst hg; exact RK41.out.sz)
        have RG44 : Hid (Blk rw44 g9 72 zpgc.toArray) := Lib.hid (by subst hw hg; exact Blk.new _ _ _)
        clear hg hw hHeld
        refine hK.out _ _ (Blk.katG (RK44.out.blk _ List.mem_cons_self).2) (fun hHeld => ?_)
        clear hK K
        try simp only [Act.put, List.getElem_toArray, List.getElem_cons_succ, List.getElem_cons_zero, List.setIfInBounds_toArray, List.set_cons_zero, List.set_cons_succ]
        refine wpAnyH_ready (rs := [3]) (by kernel_rfl) (by simp) ?_
        refine AllReadyH.cons (by rfl) (fun K hK => ?_) AllReadyH.nil
        · go_simp
          refine (HASK.out _ RK44.out.bel).mono ?_
          rintro e_ rw45 ⟨rfl, c_⟩
          have RK45 := Lib.hid (RK44.out.below c_)
          have RG45 := Lib.hid (RG44.out.keep c_)
          clear c_ hHeld
          go_wp2_with fail
          refine hK.out _ _ (Blk.katG (RK45.out.blk _ List.mem_cons_self).2) (fun hHeld => ?_)
          clear hK K
          try simp only [Act.put, List.getElem_toArray, List.getElem_cons_succ, List.getElem_cons_zero, List.setIfInBounds_toArray, List.set_cons_zero, List.set_cons_succ]
          refine wpAnyH_take (i := 4) (v := ?v71) rfl (by kernel_rfl) (by kernel_rfl) (by kernel_rfl) (fun _ _ _ h => h) (Or.inl ⟨by rfl, ?hy71⟩) hHeld ?rest71
          case hy71 =>
            intro w' hSw
            try dsimp only at hSw
            go_simp
            first | done | with_reducible rfl
          try simp only [Act.put, List.getElem_toArray, List.getElem_cons_succ, List.getElem_cons_zero, List.setIfInBounds_toArray, List.set_cons_zero, List.set_cons_succ]
          refine wpAnyH_take (i := 5) (v := ?v72) rfl (by kernel_rfl) (by kernel_rfl) (by kernel_rfl) (fun _ _ _ h => h) (Or.inl ⟨by rfl, ?hy72⟩) hHeld ?rest72
          case hy72 =>
            intro w' hSw
            try dsimp only at hSw
            go_simp
            first | done | with_reducible rfl
          try simp only [Act.put, List.getElem_toArray, List.getElem_cons_succ, List.getElem_cons_zero, List.setIfInBounds_toArray, List.set_cons_zero, List.set_cons_succ]
          refine wpAnyH_take (i := 6) (v := ?v73) rfl (by kernel_rfl) (by kernel_rfl) (by kernel_rfl) (fun _ _ _ h => h) (Or.inl ⟨by rfl, ?hy73⟩) hHeld ?rest73
          case hy73 =>
            intro w' hSw
            try dsimp only at hSw
            go_simp
            first | done | with_reducible rfl
          try simp only [Act.put, List.getElem_toArray, List.getElem_cons_succ, List.getElem_cons_zero, List.setIfInBounds_toArray, List.set_cons_zero, List.set_cons_succ]
          refine wpAnyH_ready (rs := [8]) (by kernel_rfl) (by simp) ?_
          refine AllReadyH.cons (by rfl) (fun K hK => ?_) AllReadyH.nil
          refine step_store_pg RG45.out rfl (.tmp 7) (.tmp 15) (by rfl) (by rfl) (pgc p x.o u) (by rfl) (pgc_len _ _ _) (pgc_one _ _ _) ?_
          have SK := Lib.hid (RK45.out.set HGE9.out (pgc p x.o u).toArray)
          have SG := Lib.hid (Blk.setRow RG45.out (pgc p x.o u).toArray)
          generalize rw45.setRow g9 (pgc p x.o u).toArray = SW at SK SG ⊢
          refine hK.out _ _ (Blk.katG (SK.out.blk _ List.mem_cons_self).2) (fun hHeld => ?_)
          clear hK K
          try simp only [Act.put, List.getElem_toArray, List.getElem_cons_succ, List.getElem_cons_zero]
          refine wpAnyH_take (i := 9) (v := ?v74) rfl (by kernel_rfl) (by kernel_rfl) (by kernel_rfl) (fun _ _ _ h => h) (Or.inl ⟨by rfl, ?hy74⟩) hHeld ?rest74
          case hy74 =>
            intro w' hSw
            try dsimp only at hSw
            go_simp
            first | done | with_reducible rfl
          try simp only [Act.put, List.getElem_toArray, List.getElem_cons_succ, List.getElem_cons_zero, List.setIfInBounds_toArray, List.set_cons_zero, List.set_cons_succ]
          refine wpAnyH_done (by kernel_rfl) ?_ _
          refine OnlyN.normal ?_
          exact ⟨g9, rfl, rfl, SK.out, SG.out, HGE9.out⟩
    · refine step_alloc72 rfl (by rfl) ?_
      intro g9 rw46 hg hw
      have RK46 : Hid (Kb w _ _ rw46) := Lib.hid (by subst hw; exact HKB.out.drew.alloc _)
      have HGE9 : Hid (w.heap.size + 2 ≤ g9) := Lib.hid (by subst hg; exact HKB.out.drew.sz)
      have RG46 : Hid (Blk rw46 g9 72 zpgc.toArray) := Lib.hid (by subst hw hg; exact Blk.new _ _ _)
      clear hg hw hHeld
      refine hK.out _ _ (Blk.katG (RK46.out.blk _ List.mem_cons_self).2) (fun hHeld => ?_)
      clear hK K
      try simp only [Act.put, List.getElem_toArray, List.getElem_cons_succ, List.getElem_cons_zero, List.setIfInBounds_toArray, List.set_cons_zero, List.set_cons_succ]
      refine wpAnyH_ready (rs := [2]) (by kernel_rfl) (by simp) ?_
      refine AllReadyH.cons (by rfl) (fun K hK => ?_) AllReadyH.nil
      · go_simp
        refine (whole_any _).mono ?_
        rintro e_ rw47 ⟨rfl, c_⟩
        have RK47 := Lib.hid (RK46.out.below c_)
        have RG47 := Lib.hid (RG46.out.keep c_)
        clear c_ hHeld
        go_wp2_with fail
        refine hK.out _ _ (Blk.katG (RK47.out.blk _ List.mem_cons_self).2) (fun hHeld => ?_)
        clear hK K
        try simp only [Act.put, List.getElem_toArray, List.getElem_cons_succ, List.getElem_cons_zero, List.setIfInBounds_toArray, List.set_cons_zero, List.set_cons_succ]
        refine wpAnyH_ready (rs := [3]) (by kernel_rfl) (by simp) ?_
        refine AllReadyH.cons (by rfl) (fun K hK => ?_) AllReadyH.nil
        · go_simp
          refine (HASK.out _ RK47.out.bel).mono ?_
          rintro e_ rw48 ⟨rfl, c_⟩
          have RK48 := Lib.hid (RK47.out.below c_)
          have RG48 := Lib.hid (RG47.out.keep c_)
          clear c_ hHeld
          go_wp2_with fail
          refine hK.out _ _ (Blk.katG (RK48.out.blk _ List.mem_cons_self).2) (fun hHeld => ?_)
          clear hK K
          try simp only [Act.put, List.getElem_toArray, List.getElem_cons_succ, List.getElem_cons_zero, List.setIfInBounds_toArray, List.set_cons_zero, List.set_cons_succ]
          refine wpAnyH_take (i := 4) (v := ?v75) rfl (by kernel_rfl) (by kernel_rfl) (by kernel_rfl) (fun _ _ _ h => h) (Or.inl ⟨by rfl, ?hy75⟩) hHeld ?rest75
          case hy75 =>
            intro w' hSw
            try dsimp only at hSw
            go_simp
            first | done | with_reducible rfl
          try simp only [Act.put, List.getElem_toArray, List.getElem_cons_succ, List.getElem_cons_zero, List.setIfInBounds_toArray, List.set_cons_zero, List.set_cons_succ]
          refine wpAnyH_take (i := 5) (v := ?v76) rfl (by kernel_rfl) (by kernel_rfl) (by kernel_rfl) (fun _ _ _ h => h) (Or.inl ⟨by rfl, ?hy76⟩) hHeld ?rest76
          case hy76 =>
            intro w' hSw
            try dsimp only at hSw
            go_simp
            first | done | with_reducible rfl
          try simp only [Act.put, List.getElem_toArray, List.getElem_cons_succ, List.getElem_cons_zero, List.setIfInBounds_toArray, List.set_cons_zero, List.set_cons_succ]
          refine wpAnyH_take (i := 6) (v := ?v77) rfl (by kernel_rfl) (by kernel_rfl) (by kernel_rfl) (fun _ _ _ h => h) (Or.inl ⟨by rfl, ?hy77⟩) hHeld ?rest77
          case hy77 =>
            intro w' hSw
            try dsimp only at hSw
            go_simp
            first | done | with_reducible rfl
          try simp only [Act.put, List.getElem_toArray, List.getElem_cons_succ, List.getElem_cons_zero, List.setIfInBounds_toArray, List.set_cons_zero, List.set_cons_succ]
          refine wpAnyH_ready (rs := [8]) (by kernel_rfl) (by simp) ?_
          refine AllReadyH.cons (by rfl) (fun K hK => ?_) AllReadyH.nil
          refine step_store_pg RG48.out rfl (.tmp 7) (.tmp 15) (by rfl) (by rfl) (pgc p x.o u) (by rfl) (pgc_len _ _ _) (pgc_one _ _ _) ?_
          have SK := Lib.hid (RK48.out.set HGE9.out (pgc p x.o u).toArray)
          have SG := Lib.hid (Blk.setRow RG48.out (pgc p x.o u).toArray)
          generalize rw48.setRow g9 (pgc p x.o u).toArray = SW at SK SG ⊢
          refine hK.out _ _ (Blk.katG (SK.out.blk _ List.mem_cons_self).2) (fun hHeld => ?_)
          clear hK K
          try simp only [Act.put, List.getElem_toArray, List.getElem_cons_succ, List.getElem_cons_zero]
          refine wpAnyH_take (i := 9) (v := ?v78) rfl (by kernel_rfl) (by kernel_rfl) (by kernel_rfl) (fun _ _ _ h => h) (Or.inl ⟨by rfl, ?hy78⟩) hHeld ?rest78
          case hy78 =>
            intro w' hSw
            try dsimp only at hSw
            go_simp
            first | done | with_reducible rfl
          try simp only [Act.put, List.getElem_toArray, List.getElem_cons_succ, List.getElem_cons_zero, List.setIfInBounds_toArray, List.set_cons_zero, List.set_cons_succ]
          refine wpAnyH_done (by kernel_rfl) ?_ _
          refine OnlyN.normal ?_
          exact ⟨g9, rfl, rfl, SK.out, SG.out, HGE9.out⟩
  rintro g7 W7 ⟨hk, hg, hge⟩
  have HK7 := Lib.hid (hk.more hg)
  have HGE7 := Lib.hid hge
  clear hk hg hge HKB c0 c1 c2 c3 c4 c5 d0 d1 d2 d3 d4 d5
  obtain ⟨d0, d1, d2, d3, d4, d5⟩ := (HK7.out.blk _ (List.mem_cons_of_mem _ (List.mem_cons_of_mem _ List.mem_cons_self))).2.six
  obtain ⟨N7, hN7⟩ : ∃ N7, W7.heap.size = N7 := ⟨_, rfl⟩
  rw [hN7] at HK7
  have HNN := Lib.hid (show w.heap.size ≤ N7 from HK7.out.n0)
  clear hN7
  simp only [Act.put, List.setIfInBounds_toArray, List.set_cons_zero, List.set_cons_succ]
  go_wp2_with fail
  refine region_pg (fun ac g9 => (((((((((ac.put (some 21) (pv p)).put (some 22) y.val).put (some 23) (.agg (spn 0 64))).put (some 24) (.tuple #[.agg (pgc p y.o v).toArray, .int .i64 0])).put (some 20) (.tuple #[.agg (pgc p y.o v).toArray, .int .i64 0])).put (some 25) (.agg (pgc p y.o v).toArray)).put (some 26) (.int .i64 0)).put (some 9) (.pointer (some ⟨g9, 0, none⟩))).put (some 8) (.int .i64 0))) (fun g9 W => Kb w ((g7, 72, (pgc p x.o u).toArray) :: [(w.heap.size, 30, kc x.k x.o x.c x.l x.r x.v), (w.heap.size + 1, 30, kc y.k y.o y.c y.l y.r y.v)]) (N7) W ∧ Blk W g9 72 (pgc p y.o v).toArray ∧ N7 ≤ g9) ?mkD ?restD
  case mkD =>
    refine wp_region_only (S := fun W => KeyAt W (w.heap.size + 1) 0 y) (by kernel_rfl) (Blk.katG (HK7.out.drew.blk _ (List.mem_cons_of_mem _ (List.mem_cons_of_mem _ List.mem_cons_self))).2) (fun hHeld => ?_)
    refine wpAnyH_take (i := 0) (v := ?v79) rfl (by kernel_rfl) (by kernel_rfl) (by kernel_rfl) (fun _ _ _ h => h) (Or.inl ⟨by rfl, ?hy79⟩) hHeld ?rest79
    case hy79 =>
      intro w' hSw
      try dsimp only at hSw
      go_simp
      first | done | with_reducible rfl
    try simp only [Act.put, List.getElem_toArray, List.getElem_cons_zero, List.setIfInBounds_toArray, List.set_cons_zero, List.set_cons_succ]
    refine wpAnyH_take (i := 1) rfl (by kernel_rfl) (by kernel_rfl) (by kernel_rfl) (fun _ _ _ h => h) (y_kyG (by rfl) (.tmp 5) (by rfl) (w.heap.size + 1) 0 (by rfl) y (fun _ h => h)) hHeld ?_
    try simp only [Act.put, List.getElem_toArray, List.getElem_cons_succ, List.getElem_cons_zero, List.setIfInBounds_toArray, List.set_cons_zero, List.set_cons_succ]
    refine wpAnyH_ready (rs := [2, 7]) (by kernel_rfl) (by simp) ?_
    refine AllReadyH.cons (by rfl) (fun K hK => ?_) (AllReadyH.cons (by rfl) (fun K hK => ?_) AllReadyH.nil)
    · go_simp
      refine (whole_any _).mono ?_
      rintro e_ rw49 ⟨rfl, c_⟩
      have RK49 := Lib.hid (HK7.out.drew.below c_)
      clear c_ hHeld
      go_wp2_with fail
      refine hK.out _ _ (Blk.katG (RK49.out.blk _ (List.mem_cons_of_mem _ (List.mem_cons_of_mem _ List.mem_cons_self))).2) (fun hHeld => ?_)
      clear hK K
      try simp only [Act.put, List.getElem_toArray, List.getElem_cons_succ, List.getElem_cons_zero, List.setIfInBounds_toArray, List.set_cons_zero, List.set_cons_succ]
      refine wpAnyH_ready (rs := [3, 7]) (by kernel_rfl) (by simp) ?_
      refine AllReadyH.cons (by rfl) (fun K hK => ?_) (AllReadyH.cons (by rfl) (fun K hK => ?_) AllReadyH.nil)
      · go_simp
        refine (HASK2.out _ RK49.out.bel).mono ?_
        rintro e_ rw50 ⟨rfl, c_⟩
        have RK50 := Lib.hid (RK49.out.below c_)
        clear c_ hHeld
        go_wp2_with fail
        refine hK.out _ _ (Blk.katG (RK50.out.blk _ (List.mem_cons_of_mem _ (List.mem_cons_of_mem _ List.mem_cons_self))).2) (fun hHeld => ?_)
        clear hK K
        try simp only [Act.put, List.getElem_toArray, List.getElem_cons_succ, List.getElem_cons_zero, List.setIfInBounds_toArray, List.set_cons_zero, List.set_cons_succ]
        refine wpAnyH_take (i := 4) (v := ?v80) rfl (by kernel_rfl) (by kernel_rfl) (by kernel_rfl) (fun _ _ _ h => h) (Or.inl ⟨by rfl, ?hy80⟩) hHeld ?rest80
        case hy80 =>
          intro w' hSw
          try dsimp only at hSw
          go_simp
          first | done | with_reducible rfl
        try simp only [Act.put, List.getElem_toArray, List.getElem_cons_succ, List.getElem_cons_zero, List.setIfInBounds_toArray, List.set_cons_zero, List.set_cons_succ]
        refine wpAnyH_take (i := 5) (v := ?v81) rfl (by kernel_rfl) (by kernel_rfl) (by kernel_rfl) (fun _ _ _ h => h) (Or.inl ⟨by rfl, ?hy81⟩) hHeld ?rest81
        case hy81 =>
          intro w' hSw
          try dsimp only at hSw
          go_simp
          first | done | with_reducible rfl
        try simp only [Act.put, List.getElem_toArray, List.getElem_cons_succ, List.getElem_cons_zero, List.setIfInBounds_toArray, List.set_cons_zero, List.set_cons_succ]
        refine wpAnyH_take (i := 6) (v := ?v82) rfl (by kernel_rfl) (by kernel_rfl) (by kernel_rfl) (fun _ _ _ h => h) (Or.inl ⟨by rfl, ?hy82⟩) hHeld ?rest82
        case hy82 =>
          intro w' hSw
          try dsimp only at hSw
          go_simp
          first | done | with_reducible rfl
        try simp only [Act.put, List.getElem_toArray, List.getElem_cons_succ, List.getElem_cons_zero, List.setIfInBounds_toArray, List.set_cons_zero, List.set_cons_succ]
        refine wpAnyH_ready (rs := [7]) (by kernel_rfl) (by simp) ?_
        refine AllReadyH.cons (by rfl) (fun K hK => ?_) AllReadyH.nil
        · refine step_alloc72 rfl (by rfl) ?_
          intro g9 rw51 hg hw
          have RK51 : Hid (Kb w _ _ rw51) := Lib.hid (by subst hw; exact RK50.out.alloc _)
          have HGE9 : Hid (N7 ≤ g9) := Lib.hid (by subst hg; exact RK50.out.sz)
          have RG51 : Hid (Blk rw51 g9 72 zpgc.toArray) := Lib.hid (by subst hw hg; exact Blk.new _ _ _)
          clear hg hw hHeld
          refine hK.out _ _ (Blk.katG (RK51.out.blk _ (List.mem_cons_of_mem _ (List.mem_cons_of_mem _ List.mem_cons_self))).2) (fun hHeld => ?_)
          clear hK K
          try simp only [Act.put, List.getElem_toArray, List.getElem_cons_succ, List.getElem_cons_zero, List.setIfInBounds_toArray, List.set_cons_zero, List.set_cons_succ]
          refine wpAnyH_ready (rs := [8]) (by kernel_rfl) (by simp) ?_
          refine AllReadyH.cons (by rfl) (fun K hK => ?_) AllReadyH.nil
          refine step_store_pg RG51.out rfl (.tmp 9) (.tmp 25) (by rfl) (by rfl) (pgc p y.o v) (by rfl) (pgc_len _ _ _) (pgc_one _ _ _) ?_
          have SK := Lib.hid (RK51.out.set HGE9.out (pgc p y.o v).toArray)
          have SG := Lib.hid (Blk.setRow RG51.out (pgc p y.o v).toArray)
          generalize rw51.setRow g9 (pgc p y.o v).toArray = SW at SK SG ⊢
          refine hK.out _ _ (Blk.katG (SK.out.blk _ (List.mem_cons_of_mem _ (List.mem_cons_of_mem _ List.mem_cons_self))).2) (fun hHeld => ?_)
          clear hK K
          try simp only [Act.put, List.getElem_toArray, List.getElem_cons_succ, List.getElem_cons_zero]
          refine wpAnyH_take (i := 9) (v := ?v83) rfl (by kernel_rfl) (by kernel_rfl) (by kernel_rfl) (fun _ _ _ h => h) (Or.inl ⟨by rfl, ?hy83⟩) hHeld ?rest83
          case hy83 =>
            intro w' hSw
            try dsimp only at hSw
            go_simp
            first | done | with_reducible rfl
          try simp only [Act.put, List.getElem_toArray, List.getElem_cons_succ, List.getElem_cons_zero, List.setIfInBounds_toArray, List.set_cons_zero, List.set_cons_succ]
          refine wpAnyH_done (by kernel_rfl) ?_ _
          refine OnlyN.normal ?_
          exact ⟨g9, rfl, rfl, SK.out, SG.out, HGE9.out⟩
      · refine step_alloc72 rfl (by rfl) ?_
        intro g9 rw52 hg hw
        have RK52 : Hid (Kb w _ _ rw52) := Lib.hid (by subst hw; exact RK49.out.alloc _)
        have HGE9 : Hid (N7 ≤ g9) := Lib.hid (by subst hg; exact RK49.out.sz)
        have RG52 : Hid (Blk rw52 g9 72 zpgc.toArray) := Lib.hid (by subst hw hg; exact Blk.new _ _ _)
        clear hg hw hHeld
        refine hK.out _ _ (Blk.katG (RK52.out.blk _ (List.mem_cons_of_mem _ (List.mem_cons_of_mem _ List.mem_cons_self))).2) (fun hHeld => ?_)
        clear hK K
        try simp only [Act.put, List.getElem_toArray, List.getElem_cons_succ, List.getElem_cons_zero, List.setIfInBounds_toArray, List.set_cons_zero, List.set_cons_succ]
        refine wpAnyH_ready (rs := [3]) (by kernel_rfl) (by simp) ?_
        refine AllReadyH.cons (by rfl) (fun K hK => ?_) AllReadyH.nil
        · go_simp
          refine (HASK2.out _ RK52.out.bel).mono ?_
          rintro e_ rw53 ⟨rfl, c_⟩
          have RK53 := Lib.hid (RK52.out.below c_)
          have RG53 := Lib.hid (RG52.out.keep c_)
          clear c_ hHeld
          go_wp2_with fail
          refine hK.out _ _ (Blk.katG (RK53.out.blk _ (List.mem_cons_of_mem _ (List.mem_cons_of_mem _ List.mem_cons_self))).2) (fun hHeld => ?_)
          clear hK K
          try simp only [Act.put, List.getElem_toArray, List.getElem_cons_succ, List.getElem_cons_zero, List.setIfInBounds_toArray, List.set_cons_zero, List.set_cons_succ]
          refine wpAnyH_take (i := 4) (v := ?v84) rfl (by kernel_rfl) (by kernel_rfl) (by kernel_rfl) (fun _ _ _ h => h) (Or.inl ⟨by rfl, ?hy84⟩) hHeld ?rest84
          case hy84 =>
            intro w' hSw
            try dsimp only at hSw
            go_simp
            first | done | with_reducible rfl
          try simp only [Act.put, List.getElem_toArray, List.getElem_cons_succ, List.getElem_cons_zero, List.setIfInBounds_toArray, List.set_cons_zero, List.set_cons_succ]
          refine wpAnyH_take (i := 5) (v := ?v85) rfl (by kernel_rfl) (by kernel_rfl) (by kernel_rfl) (fun _ _ _ h => h) (Or.inl ⟨by rfl, ?hy85⟩) hHeld ?rest85
          case hy85 =>
            intro w' hSw
            try dsimp only at hSw
            go_simp
            first | done | with_reducible rfl
          try simp only [Act.put, List.getElem_toArray, List.getElem_cons_succ, List.getElem_cons_zero, List.setIfInBounds_toArray, List.set_cons_zero, List.set_cons_succ]
          refine wpAnyH_take (i := 6) (v := ?v86) rfl (by kernel_rfl) (by kernel_rfl) (by kernel_rfl) (fun _ _ _ h => h) (Or.inl ⟨by rfl, ?hy86⟩) hHeld ?rest86
          case hy86 =>
            intro w' hSw
            try dsimp only at hSw
            go_simp
            first | done | with_reducible rfl
          try simp only [Act.put, List.getElem_toArray, List.getElem_cons_succ, List.getElem_cons_zero, List.setIfInBounds_toArray, List.set_cons_zero, List.set_cons_succ]
          refine wpAnyH_ready (rs := [8]) (by kernel_rfl) (by simp) ?_
          refine AllReadyH.cons (by rfl) (fun K hK => ?_) AllReadyH.nil
          refine step_store_pg RG53.out rfl (.tmp 9) (.tmp 25) (by rfl) (by rfl) (pgc p y.o v) (by rfl) (pgc_len _ _ _) (pgc_one _ _ _) ?_
          have SK := Lib.hid (RK53.out.set HGE9.out (pgc p y.o v).toArray)
          have SG := Lib.hid (Blk.setRow RG53.out (pgc p y.o v).toArray)
          generalize rw53.setRow g9 (pgc p y.o v).toArray = SW at SK SG ⊢
          refine hK.out _ _ (Blk.katG (SK.out.blk _ (List.mem_cons_of_mem _ (List.mem_cons_of_mem _ List.mem_cons_self))).2) (fun hHeld => ?_)
          clear hK K
          try simp only [Act.put, List.getElem_toArray, List.getElem_cons_succ, List.getElem_cons_zero]
          refine wpAnyH_take (i := 9) (v := ?v87) rfl (by kernel_rfl) (by kernel_rfl) (by kernel_rfl) (fun _ _ _ h => h) (Or.inl ⟨by rfl, ?hy87⟩) hHeld ?rest87
          case hy87 =>
            intro w' hSw
            try dsimp only at hSw
            go_simp
            first | done | with_reducible rfl
          try simp only [Act.put, List.getElem_toArray, List.getElem_cons_succ, List.getElem_cons_zero, List.setIfInBounds_toArray, List.set_cons_zero, List.set_cons_succ]
          refine wpAnyH_done (by kernel_rfl) ?_ _
          refine OnlyN.normal ?_
          exact ⟨g9, rfl, rfl, SK.out, SG.out, HGE9.out⟩
    · refine step_alloc72 rfl (by rfl) ?_
      intro g9 rw54 hg hw
      have RK54 : Hid (Kb w _ _ rw54) := Lib.hid (by subst hw; exact HK7.out.drew.alloc _)
      have HGE9 : Hid (N7 ≤ g9) := Lib.hid (by subst hg; exact HK7.out.drew.sz)
      have RG54 : Hid (Blk rw54 g9 72 zpgc.toArray) := Lib.hid (by subst hw hg; exact Blk.new _ _ _)
      clear hg hw hHeld
      refine hK.out _ _ (Blk.katG (RK54.out.blk _ (List.mem_cons_of_mem _ (List.mem_cons_of_mem _ List.mem_cons_self))).2) (fun hHeld => ?_)
      clear hK K
      try simp only [Act.put, List.getElem_toArray, List.getElem_cons_succ, List.getElem_cons_zero, List.setIfInBounds_toArray, List.set_cons_zero, List.set_cons_succ]
      refine wpAnyH_ready (rs := [2]) (by kernel_rfl) (by simp) ?_
      refine AllReadyH.cons (by rfl) (fun K hK => ?_) AllReadyH.nil
      · go_simp
        refine (whole_any _).mono ?_
        rintro e_ rw55 ⟨rfl, c_⟩
        have RK55 := Lib.hid (RK54.out.below c_)
        have RG55 := Lib.hid (RG54.out.keep c_)
        clear c_ hHeld
        go_wp2_with fail
        refine hK.out _ _ (Blk.katG (RK55.out.blk _ (List.mem_cons_of_mem _ (List.mem_cons_of_mem _ List.mem_cons_self))).2) (fun hHeld => ?_)
        clear hK K
        try simp only [Act.put, List.getElem_toArray, List.getElem_cons_succ, List.getElem_cons_zero, List.setIfInBounds_toArray, List.set_cons_zero, List.set_cons_succ]
        refine wpAnyH_ready (rs := [3]) (by kernel_rfl) (by simp) ?_
        refine AllReadyH.cons (by rfl) (fun K hK => ?_) AllReadyH.nil
        · go_simp
          refine (HASK2.out _ RK55.out.bel).mono ?_
          rintro e_ rw56 ⟨rfl, c_⟩
          have RK56 := Lib.hid (RK55.out.below c_)
          have RG56 := Lib.hid (RG55.out.keep c_)
          clear c_ hHeld
          go_wp2_with fail
          refine hK.out _ _ (Blk.katG (RK56.out.blk _ (List.mem_cons_of_mem _ (List.mem_cons_of_mem _ List.mem_cons_self))).2) (fun hHeld => ?_)
          clear hK K
          try simp only [Act.put, List.getElem_toArray, List.getElem_cons_succ, List.getElem_cons_zero, List.setIfInBounds_toArray, List.set_cons_zero, List.set_cons_succ]
          refine wpAnyH_take (i := 4) (v := ?v88) rfl (by kernel_rfl) (by kernel_rfl) (by kernel_rfl) (fun _ _ _ h => h) (Or.inl ⟨by rfl, ?hy88⟩) hHeld ?rest88
          case hy88 =>
            intro w' hSw
            try dsimp only at hSw
            go_simp
            first | done | with_reducible rfl
          try simp only [Act.put, List.getElem_toArray, List.getElem_cons_succ, List.getElem_cons_zero, List.setIfInBounds_toArray, List.set_cons_zero, List.set_cons_succ]
          refine wpAnyH_take (i := 5) (v := ?v89) rfl (by kernel_rfl) (by kernel_rfl) (by kernel_rfl) (fun _ _ _ h => h) (Or.inl ⟨by rfl, ?hy89⟩) hHeld ?rest89
          case hy89 =>
            intro w' hSw
            try dsimp only at hSw
            go_simp
            first | done | with_reducible rfl
          try simp only [Act.put, List.getElem_toArray, List.getElem_cons_succ, List.getElem_cons_zero, List.setIfInBounds_toArray, List.set_cons_zero, List.set_cons_succ]
          refine wpAnyH_take (i := 6) (v := ?v90) rfl (by kernel_rfl) (by kernel_rfl) (by kernel_rfl) (fun _ _ _ h => h) (Or.inl ⟨by rfl, ?hy90⟩) hHeld ?rest90
          case hy90 =>
            intro w' hSw
            try dsimp only at hSw
            go_simp
            first | done | with_reducible rfl
          try simp only [Act.put, List.getElem_toArray, List.getElem_cons_succ, List.getElem_cons_zero, List.setIfInBounds_toArray, List.set_cons_zero, List.set_cons_succ]
          refine wpAnyH_ready (rs := [8]) (by kernel_rfl) (by simp) ?_
          refine AllReadyH.cons (by rfl) (fun K hK => ?_) AllReadyH.nil
          refine step_store_pg RG56.out rfl (.tmp 9) (.tmp 25) (by rfl) (by rfl) (pgc p y.o v) (by rfl) (pgc_len _ _ _) (pgc_one _ _ _) ?_
          have SK := Lib.hid (RK56.out.set HGE9.out (pgc p y.o v).toArray)
          have SG := Lib.hid (Blk.setRow RG56.out (pgc p y.o v).toArray)
          generalize rw56.setRow g9 (pgc p y.o v).toArray = SW at SK SG ⊢
          refine hK.out _ _ (Blk.katG (SK.out.blk _ (List.mem_cons_of_mem _ (List.mem_cons_of_mem _ List.mem_cons_self))).2) (fun hHeld => ?_)
          clear hK K
          try simp only [Act.put, List.getElem_toArray, List.getElem_cons_succ, List.getElem_cons_zero]
          refine wpAnyH_take (i := 9) (v := ?v91) rfl (by kernel_rfl) (by kernel_rfl) (by kernel_rfl) (fun _ _ _ h => h) (Or.inl ⟨by rfl, ?hy91⟩) hHeld ?rest91
          case hy91 =>
            intro w' hSw
            try dsimp only at hSw
            go_simp
            first | done | with_reducible rfl
          try simp only [Act.put, List.getElem_toArray, List.getElem_cons_succ, List.getElem_cons_zero, List.setIfInBounds_toArray, List.set_cons_zero, List.set_cons_succ]
          refine wpAnyH_done (by kernel_rfl) ?_ _
          refine OnlyN.normal ?_
          exact ⟨g9, rfl, rfl, SK.out, SG.out, HGE9.out⟩
  rintro g9 W ⟨hk, hg, hge⟩
  have HB1 := Lib.hid hk.bel
  have HG9 := Lib.hid hg
  have HG7 := Lib.hid (hk.blk _ List.mem_cons_self).2
  clear hk hg hge HK7 d0 d1 d2 d3 d4 d5
  simp only [Act.put, List.setIfInBounds_toArray, List.set_cons_zero, List.set_cons_succ]
  go_wp2_with (go_at_call 24; refine (chg_copy (HSS.out.below HB1.out) (HTT.out.below HB1.out) HG7.out (fun k hk => by have := HLT.out k hk; have := HGE7.out; omega) (fun ht W hf => ht.fr1 (by have := HTT.out.lt; have := HGE7.out; omega) hf) j HJ.out HXO.out g9 p y.o v HG9.out HOK.out).mono ?_; rintro e w2 ⟨rfl, hs2, hf2⟩; have HS2 := Lib.hid hs2; have HF2 := Lib.hid ((Fr.of_below HB1.out : Fr (fun k => k ∈ ps) w _).then_ hf2 (fun i hi hs => hs.elim (fun e => by have := HGE7.out; omega) id)); clear hs2 hf2)
  go_ret
  exact ⟨rfl, HS2.out, HF2.out⟩
end Go.Proofs.YtedlacdijkggjaaDoor

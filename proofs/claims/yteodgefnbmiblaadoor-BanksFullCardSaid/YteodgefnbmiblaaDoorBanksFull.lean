/- The law BanksFull returns true for every input: a bank of so many free objects makes just so many, by rising numbers; destroyed, each is made again with one more in Count, till it is retired (at most 18 objects). No condition but that the listed variables read as the program's own text lays them; the card ties them to it. -/
import Derived.Test.YteodgefnbmiblaaDoorBKn
import Derived.Test.YteodgefnbmiblaaDoorBArgs
import Derived.Test.YteodgefnbmiblaaDoorBFp
import Derived.Test.YteodgefnbmiblaaDoorBSame
import Derived.Test.YteodgefnbmiblaaDoorR07
namespace Go.Proofs.YteodgefnbmiblaaDoor.banksFull
open Go.ChangeShapes Go.WideShapes Go.ChangeAt Go.RowKit
attribute [local go_sem] Oper.semAt_some
theorem known_by {w W : World} (h : Below w.heap.size w W) (hT : Tab w) : Calls Tryd.prog 8 #[] W fun e w' => e = .returned (.bool true) ∧ Below w.heap.size w w' :=
  (known_any _ (hT.below h)).mono fun _ _ p => ⟨p.1, h.trans (p.2.mono h.size)⟩
/-- what was asked for an object's count -/
def ce (Cn : List Int) (i : Nat) : Int := (Cn[i]?).getD 0
/-- the row, when k have been laid -/
def rowF (n : Nat) (Cn : List Int) (k : Nat) : List Oj := fB n :: (List.range k).map fun i => oKC 0 (ce Cn i)
/-- so many of the first k have a count below the largest -/
def cntF (Cn : List Int) (k : Nat) : Nat := ((List.range k).map (ce Cn)).countP fun c => decide (c < 4294967295)
set_option maxRecDepth 8000 in
theorem rowF_succ (n : Nat) (Cn : List Int) (k : Nat) : rowF n Cn k ++ [oKC 0 (ce Cn k)] = rowF n Cn (k + 1) := by simp [rowF, List.range_succ]
set_option maxRecDepth 8000 in
theorem rowF_len (n : Nat) (Cn : List Int) (k : Nat) : (rowF n Cn k).length = k + 1 := by simp [rowF]
set_option maxRecDepth 8000 in
theorem cntF_succ (Cn : List Int) (k : Nat) : cntF Cn (k + 1) = cntF Cn k + (if ce Cn k < 4294967295 then 1 else 0) := by
  unfold cntF
  rw [List.range_succ, List.map_append, List.countP_append]
  simp only [List.map_cons, List.map_nil, List.countP_singleton, decide_eq_true_eq]
theorem cntF_le (Cn : List Int) : ∀ k, cntF Cn k ≤ k
  | 0 => by simp [cntF]
  | k + 1 => by
    have := cntF_le Cn k
    rw [cntF_succ]
    split <;> omega
set_option maxRecDepth 8000 in
theorem rowF_Lp (Cn : List Int) (n : Nat) : rowF n Cn n = Lp ((List.range n).map (ce Cn)) 0 := by
  unfold rowF Lp
  rw [List.length_map, List.length_range]
  congr 1
  apply List.ext_getElem?
  intro i
  rw [List.getElem?_mapIdx, List.getElem?_map, List.getElem?_map]
  cases (List.range n)[i]? with
  | none => rfl
  | some j => rfl
/-- how all stands behind made: the store has L -/
structure Sn (w W : World) (q : Nat) (A : Option Addr) (cap : Nat) (ps : List Nat) (L : List Oj) : Prop where
  bel : Below w.heap.size w W
  st : StAt W q q A cap ps L
  hq : w.heap.size ≤ q
section
variable {w W W' : World} {q : Nat} {A : Option Addr} {cap : Nat} {ps : List Nat} {L L' : List Oj}
theorem Sn.below (h : Sn w W q A cap ps L) (hb : Below W.heap.size W W') : Sn w W' q A cap ps L := ⟨h.bel.trans (hb.mono h.bel.size), h.st.below hb, h.hq⟩
theorem Sn.alloc (h : Sn w W q A cap ps L) (o : Obj) : Sn w (W.alloc o) q A cap ps L := h.below ((Below.refl _ _).alloc (Nat.le_refl _) o)
theorem Sn.drew (h : Sn w W q A cap ps L) : Sn w W.drew q A cap ps L := ⟨below_drew h.bel, h.st.drew, h.hq⟩
theorem Sn.fr (h : Sn w W q A cap ps L) (hf : Fr (fun k => k ∈ ps) W W') (hs : StAt W' q q A cap ps L') : Sn w W' q A cap ps L' :=
  ⟨h.bel.trans (below_lt hf h.bel.size fun k hk => by have h1 := (h.st.lt k (.inr (.inr hk))).1; have h2 := h.hq; omega), hs, h.hq⟩
set_option maxRecDepth 8000 in
theorem Sn.own {X Y : World} {row : Option Nat} {B : Nat} (hB : w.heap.size ≤ B) (h : Sn w X q A cap ps L) (hg : X.grownBy Y row) (hr : ∀ q, row = some q → B ≤ q ∧ ∃ o : Obj, X.heap[q]? = some o ∧ o.isCells = false) : Sn w Y q A cap ps L := by
  refine ⟨⟨hg.os.trans h.bel.os, hg.tape.trans h.bel.tape, hg.output.trans h.bel.output, Nat.le_trans h.bel.size hg.size, fun k hk => (hg.block k (by have := h.bel.size; omega) (fun e => by have := (hr k e.symm).1; omega)).trans (h.bel.block k hk)⟩, h.st.keep fun k hk => ?_, h.hq⟩
  obtain ⟨o, ho, hc⟩ := h.st.isCells hk
  refine hg.block k (Array.getElem?_eq_some_iff.1 ho).1 (fun e => ?_)
  obtain ⟨_, o', ho', hc'⟩ := hr k e.symm
  rw [ho] at ho'
  injection ho' with ho'
  subst ho'
  rw [hc] at hc'
  cases hc'
theorem Sn.tab (h : Sn w W q A cap ps L) (hT : Tab w) : TabB q W := TabB.of hT h.bel h.hq
abbrev Kept (W W' : World) : Prop := ∀ (g : Nat) (t : TypeId) (cs : Array Value), Blk W g t cs → t ≠ 47 → Blk W' g t cs
set_option maxRecDepth 8000 in
theorem make_by (h : Sn w W q A cap ps L) (hT : Tab w) (ho : okAll L.length L) (hn : 0 < L.length) (hN : L.length ≤ 64) {y z : Ky} {i e : Int} (hr : mkA L y i = (L', z, e)) :
    Calls Tryd.prog 10 #[pv q, y.val, .int .i64 i] W fun e' w' => e' = .returned (.tuple #[z.val, .int .i64 e]) ∧ Sn w w' q A cap ps L' ∧ Kept W w' := by
  have := bmake_all h.st ho hn hN (h.tab hT) y i
  rw [hr] at this
  exact this.mono fun e' w' p => ⟨p.1, h.fr p.2.2 p.2.1, fun g t cs hg ht => h.st.blkF p.2.2 hg ht⟩
set_option maxRecDepth 8000 in
theorem raze_by (h : Sn w W q A cap ps L) (hT : Tab w) (ho : okAll L.length L) (hn : 0 < L.length) (hN : L.length ≤ 64) {y : Ky} {i e : Int} (hr : rzA L y = (L', i, e)) :
    Calls Tryd.prog 13 #[pv q, y.val] W fun e' w' => e' = .returned (.tuple #[.int .i64 i, .int .i64 e]) ∧ Sn w w' q A cap ps L' ∧ Kept W w' := by
  have := braze_all h.st ho hn hN (h.tab hT) y
  rw [hr] at this
  exact this.mono fun e' w' p => ⟨p.1, h.fr p.2.2 p.2.1, fun g t cs hg ht => h.st.blkF p.2.2 hg ht⟩
theorem keyAt_of {x : Ky} {g : Nat} (h : Blk W g 33 (kl x).toArray) : KeyAt W g 0 x := ⟨h.cell 0, h.cell 1, h.cell 2, h.cell 3, h.cell 4, h.cell 5⟩
end
set_option maxRecDepth 8000 in
theorem OwO.shape {w : World} {base : Nat} {v : Value} {l : List Oj} (h : OwO w base v l) (hl : 0 < l.length) : ∃ g c, v = .slice (some ⟨g, 0, none⟩) l.length c := by
  obtain ⟨_, ⟨_, h2⟩ | ⟨g, cap, cur, e, _⟩⟩ := h
  · omega
  · exact ⟨g, cap, e⟩
/-- the counts -/
def csF (n : Nat) (Cn : List Int) : List Int := (List.range n).map (ce Cn)
set_option maxRecDepth 8000 in
theorem csF_len (n : Nat) (Cn : List Int) : (csF n Cn).length = n := by simp [csF]
set_option maxRecDepth 8000 in
theorem csF_ok {n : Nat} {Cn : List Int} (h : ∀ i, i < n → 0 ≤ ce Cn i ∧ ce Cn i ≤ 4294967295) : ∀ c ∈ csF n Cn, 0 ≤ c ∧ c ≤ 4294967295 := by
  intro c hc
  obtain ⟨i, hi, rfl⟩ := List.mem_map.1 hc
  exact h i (List.mem_range.1 hi)
set_option maxRecDepth 8000 in
theorem csF_gc (n : Nat) (Cn : List Int) : gc (csF n Cn) n = cntF Cn n := by
  have h := gc_all (cs := csF n Cn)
  rw [csF_len] at h
  exact h
set_option maxRecDepth 8000 in
theorem fullP {n : Nat} {Cn : List Int} (h1 : 1 ≤ n ∧ n ≤ 18) (h : ∀ i, i < n → 0 ≤ ce Cn i ∧ ce Cn i ≤ 4294967295) (p : Nat) : madeP (Lp (csF n Cn) p) := by
  refine ⟨by rw [Lp_len, csF_len]; omega, by rw [Lp_len]; omega, by rw [Lp_len, csF_len]; omega, Lp_ok p (by rw [csF_len]; omega) (csF_ok h)⟩
set_option maxRecDepth 8000 in
theorem full3 {n : Nat} {Cn : List Int} (h1 : 1 ≤ n ∧ n ≤ 18) (hce : ∀ i, i < n → 0 ≤ ce Cn i ∧ ce Cn i ≤ 4294967295) {x : Ky} (hx : x = fX) {p : Nat} (hg : gc (csF n Cn) p = cntF Cn n) :
    ∃ R L4 z4 e4, mkA (Lp (csF n Cn) p) x 1 = (Lp (csF n Cn) n, zk, 221) ∧ rzA (Lp (csF n Cn) n) x = (R, (cntF Cn n : Int), 0) ∧ okAll R.length R ∧ R.length = n + 1 ∧ mkA R x 1 = (L4, z4, e4) ∧ L4.length = n + 1 ∧ (e4 = 0 ∨ (e4 = 221 ∧ ∀ o ∈ L4, ¬ good o)) := by
  subst hx
  have hlen := csF_len n Cn
  have h0 : ∀ p, (Lp (csF n Cn) p)[0]? = some (fB n) := fun p => by have := Lp_0 (cs := csF n Cn) p; rwa [hlen] at this
  have hll : ∀ p, (Lp (csF n Cn) p).length = n + 1 := fun p => by rw [Lp_len, hlen]
  have d : ∀ p, BkD (Lp (csF n Cn) p) fX 0 (fB n) 1 n := fun p => fX_d (hll p) (h0 p) h1.1
  have hd := gc_done (cs := csF n Cn) (p := p) (by rw [hg, hlen, csF_gc])
  obtain ⟨hf, hL⟩ := Lp_full hd 1
  rw [hlen] at hf hL
  have hfo : fX.o = 0 := rfl
  have hrc : razC (Lp (csF n Cn) n) 1 0 (n + 1 - 1) = cntF Cn n := by
    have h2 := Lp_razC (cs := csF n Cn) n (by rw [hlen]; exact Nat.le_refl _)
    rw [hlen] at h2
    rw [Nat.add_sub_cancel, h2, csF_gc]
  have hokn : okAll (Lp (csF n Cn) n).length (Lp (csF n Cn) n) := (fullP h1 hce n).2.2.2
  have hrl : (razN (Lp (csF n Cn) n) 1 0 (n + 1 - 1)).length = n + 1 := by rw [razN_len, hll]
  have hr0 : (razN (Lp (csF n Cn) n) 1 0 (n + 1 - 1))[0]? = some (fB n) := by rw [razN_out _ _ _ _ _ (.inl (by omega)), h0]
  have hok : okAll (razN (Lp (csF n Cn) n) 1 0 (n + 1 - 1)).length (razN (Lp (csF n Cn) n) 1 0 (n + 1 - 1)) := by
    have h2 := razN_ok hokn 1 0 (n + 1 - 1)
    rw [hll] at h2
    rw [hrl]
    exact h2
  have d3 : BkD (razN (Lp (csF n Cn) n) 1 0 (n + 1 - 1)) fX 0 (fB n) 1 n := fX_d hrl hr0 h1.1
  refine ⟨razN (Lp (csF n Cn) n) 1 0 (n + 1 - 1), (mkA (razN (Lp (csF n Cn) n) 1 0 (n + 1 - 1)) fX 1).1, (mkA (razN (Lp (csF n Cn) n) 1 0 (n + 1 - 1)) fX 1).2.1, (mkA (razN (Lp (csF n Cn) n) 1 0 (n + 1 - 1)) fX 1).2.2, ?_, ?_, hok, hrl, rfl, ?_, ?_⟩
  · rw [mkA_none (d p) (.inl rfl) hf, hL]
  · rw [rzA_d (d n), hfo, hrc]
  · rw [mkA_len, hrl]
  · cases hq : fnd (razN (Lp (csF n Cn) n) 1 0 (n + 1 - 1)) 1 (n + 1 - 1) with
    | some i => exact .inl (by rw [mkA_some d3 (.inl rfl) hq])
    | none =>
      refine .inr ?_
      rw [mkA_none d3 (.inl rfl) hq]
      exact ⟨rfl, mkL_none hrl (fun o ho => by rw [hr0] at ho; rw [← Option.some.inj ho]; exact (by decide : (1 : Int) ≠ 0)) hq 1⟩
set_option maxRecDepth 100000 in
set_option maxHeartbeats 4000000 in
theorem walk_out (w : World) (hT : Tab w) (n : Int) (A0 : Option Addr) (m : Nat) (c0 : Nat) (h : (n < 1 ∨ 18 < n) ∨ 18 < m) :
    Calls Tryd.prog 4 #[.int .i64 n, .slice A0 m c0] w fun e w' => e = .returned (.bool true) ∧ Below w.heap.size w w' := by
  have HT := Lib.hid hT
  clear hT
  by_cases h1 : n < 1
  · have d1 : decide (n < 1) = true := decide_eq_true h1
    clear h h1
    go_enter Tryd.func4, Tryd.ntmps4
    go_wp2_with (go_at_call 8; refine (known_by (Below.refl _ w) HT.out).mono ?_; rintro e_ wk ⟨rfl, bk_⟩; have BK := Lib.hid bk_; clear bk_)
    go_ret
    exact ⟨rfl, BK.out⟩
  · have d1 : decide (n < 1) = false := decide_eq_false h1
    by_cases h2 : 18 < n
    · have d2 : decide (18 < n) = true := decide_eq_true h2
      clear h h1 h2
      go_enter Tryd.func4, Tryd.ntmps4
      go_wp2_with (go_at_call 8; refine (known_by (Below.refl _ w) HT.out).mono ?_; rintro e_ wk ⟨rfl, bk_⟩; have BK := Lib.hid bk_; clear bk_)
      go_ret
      exact ⟨rfl, BK.out⟩
    · have d2 : decide (18 < n) = false := decide_eq_false h2
      have d3 : decide ((18 : Int) < (m : Int)) = true := decide_eq_true (by omega)
      have d4 : decide (18 < m) = true := decide_eq_true (by omega)
      clear h h1 h2
      go_enter Tryd.func4, Tryd.ntmps4
      go_wp2_with (go_at_call 8; refine (known_by (Below.refl _ w) HT.out).mono ?_; rintro e_ wk ⟨rfl, bk_⟩; have BK := Lib.hid bk_; clear bk_)
      go_ret
      exact ⟨rfl, BK.out⟩
theorem y_bl2c {ops : Array Oper} {o : Oper} {a : Act} {S : World → Prop} {t : TypeId} {i j : Nat} {x y : Value} {cs : Array Value} (hw : Region.wanted o (yielded ops a.tmps) = true) (r : Operand) (ho : o.op = .build t #[(i, .const x), (j, r)]) (hr : a.eval r = y) (hb : Tryd.prog.built t [(i, x), (j, y)] = some cs) : YieldsIf Tryd.prog ops S o (.agg cs) a :=
  y_bl2 hw (.const x) r ho rfl hr hb
set_option maxRecDepth 8000 in
theorem oz_count (c : Int) : oz.cells.toArray.setIfInBounds 1 (.int .i64 c) = (oKC 0 c).cells.toArray := by rfl
set_option maxRecDepth 8000 in
theorem OwO.cell {w : World} {base g : Nat} {v : Value} {l : List Oj} (h : OwO w base v l) (x : Value) (hne : v.ownBlock ≠ some g) : OwO (w.setCell ⟨g, 1, none⟩ x) base v l := by
  obtain ⟨hl, ⟨h1, h2⟩ | ⟨g', cap, cur, h1, h2, h3, h4⟩⟩ := h
  · exact ⟨hl, .inl ⟨h1, h2⟩⟩
  · refine ⟨hl, .inr ⟨g', cap, cur, h1, h2, ?_, h4⟩⟩
    rw [Below.heap_setCell w ⟨g, 1, none⟩ x g' (fun e => hne (by rw [h1]; show some g' = some g; rw [e]))]
    exact h3
set_option maxRecDepth 100000 in
set_option maxHeartbeats 4000000 in
theorem walk_in1 (w : World) (hT : Tab w) (n : Nat) (A0 : Option Addr) (Cn : List Int) (m : Nat) (hm : Cn.length = m) (c0 : Nat) (hr : RdQ w A0 Cn) (h1 : 1 ≤ n ∧ n ≤ 18) (hmm : m ≤ 18) (b0 b1 b2 : Oj) (n1 n2 : Ky) (h0 : Tryd.prog.built 47 [(0, .int .i64 1), (1, .int .i64 1)] = some b0.cells.toArray) (hn1 : Tryd.prog.built 33 [(0, .int .i64 1), (5, .int .i64 1)] = some (kl n1).toArray) (hn2 : Tryd.prog.built 33 [(0, .int .i64 1), (5, .int .i64 (n : Int))] = some (kl n2).toArray) (e1 : slotAs b0 0 n1 = b1) (e2 : slotAs b1 1 n2 = b2) (he : b2 = fB n) (x : Ky) (hx : Tryd.prog.built 33 [(0, .int .i64 4), (2, .int .i64 1)] = some (kl x).toArray) (hxe : x = fX) :
    Calls Tryd.prog 4 #[.int .i64 (n : Int), .slice A0 m c0] w fun e w' => e = .returned (.bool true) ∧ Below w.heap.size w w' := by
  have HT := Lib.hid hT
  have hz := z34
  have hol := oz_len
  have H0 := Lib.hid h0
  have HN1 := Lib.hid hn1
  have HN2 := Lib.hid hn2
  have E1 := Lib.hid e1
  have E2 := Lib.hid e2
  have HRQ := Lib.hid hr
  have HX := Lib.hid hx
  have HXE := Lib.hid hxe
  have HLEN := Lib.hid hm
  have hn18 : n ≤ 18 := by omega
  have d1 : decide ((n : Int) < 1) = false := decide_eq_false (by omega)
  have d2 : decide ((18 : Int) < (n : Int)) = false := decide_eq_false (by omega)
  have d2' : decide (18 < n) = false := decide_eq_false (by omega)
  have d3 : decide ((18 : Int) < (m : Int)) = false := decide_eq_false (by omega)
  have d4 : decide (18 < m) = false := decide_eq_false (by omega)
  have HB1 := Lib.hid ((Below.refl w.heap.size w).alloc (Nat.le_refl _) (.cells b2.cells.toArray 47))
  have HG1 := Lib.hid (Blk.new w 47 b2.cells.toArray)
  have HRW := Lib.hid (show [b2] = rowF n Cn 0 by rw [he]; rfl)
  have HHB := Lib.hid (show 1 ≤ n ∧ n ≤ 18 ∧ m ≤ 18 by omega)
  clear hT h0 hn1 hn2 e1 e2 hr hm he h1 hn18 hmm hx hxe
  refine (callsIn_wide (n := 4)).1 (callsIn_of_wp_marks Tryd.func4 rfl trivial ?_ rfl)
  simp only [Tryd.ntmps4, List.size_toArray, List.length_cons, List.length_nil, Nat.reduceAdd, Nat.reduceSub, Array.replicate_succ, Array.replicate_zero, List.push_toArray, List.append_toArray, List.nil_append, List.cons_append]
  refine wpIn_wide.2 ?_
  go_wp2_with (first
    | (show wpList _ _ _ ({ dst := some 37, op := .build _ _, type := _, pos := _, after := _, guard := _ } :: _) _ _; refine wpList_yields (S := fun _ => True) (y_build2 (by rfl) (by rfl) H0.out) trivial ?_)
    | (show wpList _ _ _ ({ dst := none, op := .store _ (.tmp 5) (.tmp 37), type := _, pos := _, after := _, guard := _ } :: _) _ _; refine wpList_store_last rfl (.tmp 5) (.tmp 37) rfl _ rfl rfl b0 oz rfl ?_)
    | (show wpList _ _ _ ({ dst := some 38, op := .build _ _, type := _, pos := _, after := _, guard := _ } :: _) _ _; refine wpList_yields (S := fun _ => True) (y_build2 (by rfl) (by rfl) HN1.out) trivial ?_)
    | (show wpList _ _ _ ({ dst := some 40, op := .build _ _, type := _, pos := _, after := _, guard := _ } :: _) _ _; refine wpList_yields (S := fun _ => True) (y_bl2c (by rfl) (.tmp 39) (by rfl) (by rfl) HN2.out) trivial ?_)
    | (show wpList _ _ _ ({ dst := none, op := .store _ (.tmp 42) (.tmp 38), type := _, pos := _, after := _, guard := _ } :: _) _ _; refine wpList_store_slot b0 0 n1 rfl (.tmp 42) (.tmp 38) rfl w.heap.size 3 rfl rfl (by decide) rfl rfl ?_; rw [E1.out])
    | (show wpList _ _ _ ({ dst := none, op := .store _ (.tmp 44) (.tmp 40), type := _, pos := _, after := _, guard := _ } :: _) _ _; refine wpList_store_slot b1 1 n2 rfl (.tmp 44) (.tmp 40) rfl w.heap.size 9 rfl rfl (by decide) rfl rfl ?_; rw [E2.out])
    | (show wpList _ _ _ ({ dst := some 45, op := .load _ _, type := _, pos := _, after := _, guard := _ } :: _) _ _; refine wpList_yields (S := fun w' => ObAt w' w.heap.size 0 b2) (y_ob (by rfl) (.tmp 5) (by rfl) w.heap.size 0 (by rfl) b2 (fun _ h => h)) HG1.out.ob ?_)
    | (show wpList _ _ _ ({ dst := some 46, op := .buildSlice _ _ _, type := _, pos := _, after := _, guard := _ } :: _) _ _; refine wpList_buildSlice34 rfl (.tmp 45) rfl b2 rfl ?_; have B3 := Lib.hid (HB1.out.alloc HB1.out.size (.cells b2.cells.toArray 47)); have O3 := Lib.hid (OwO.first (w.alloc (.cells b2.cells.toArray 47)) b2 w.heap.size HB1.out.size); generalize (w.alloc (.cells b2.cells.toArray 47)).alloc (.cells b2.cells.toArray 47) = w3 at B3 O3 ⊢; generalize (w.alloc (.cells b2.cells.toArray 47)).heap.size = g3 at O3 ⊢))
  go_loopw [6, 7, 8] (fun q6 q7 q8 wr => ∃ k : Nat, k ≤ n ∧ q8 = .int .i64 (k : Int) ∧ q7 = .int .i64 (cntF Cn k : Int) ∧ OwO wr w.heap.size q6 (rowF n Cn k) ∧ Below w.heap.size w wr ∧ ∀ i, i < k → 0 ≤ ce Cn i ∧ ce Cn i ≤ 4294967295) (fun _ _ q8 _ => n + 1 - (intOf q8).toNat)
  case atStart => exact ⟨0, by omega, rfl, rfl, by rw [← HRW.out]; exact O3.out, B3.out, fun i hi => absurd hi (Nat.not_lt_zero i)⟩
  case round =>
    obtain ⟨k, hk, rfl, rfl, hown, hb, hce⟩ := hrel
    clear O3 B3 HB1 HG1
    have HO := Lib.hid hown
    have HB := Lib.hid hb
    have HCE := Lib.hid hce
    have HCL := Lib.hid (cntF_le Cn k)
    have hn18 := HHB.out.2.1
    clear hown hb hce
    by_cases hlt : k < n
    · have d5 : decide ((k : Int) < (n : Int)) = true := decide_eq_true (by omega)
      have d5' : decide (k < n) = true := decide_eq_true hlt
      have HLT := Lib.hid hlt
      have hk18 : (k : Int) ≤ 18 := by omega
      have HK := Lib.hid hk
      have e8 : IntKind.i64.wrap ((cntF Cn k : Int) + 1) = (cntF Cn k : Int) + 1 := IntWalk.i64_in _ (by have := HCL.out; have := HHB.out; omega)
      clear hlt hk
      by_cases hkm : k < m
      · have d6 : decide ((k : Int) < (m : Int)) = true := decide_eq_true (by omega)
        have d6' : decide (k < m) = true := decide_eq_true hkm
        have d6i : (k : Int) < (m : Int) := by omega
        obtain ⟨kb, off, rfl, hcell⟩ := HRQ.out k (by rw [HLEN.out]; exact hkm)
        have hck : ce Cn k = Cn[k]'(by rw [HLEN.out]; exact hkm) := by unfold ce; rw [List.getElem?_eq_getElem (by rw [HLEN.out]; exact hkm)]; rfl
        rw [← hck] at hcell
        have HCF := Lib.hid (fun W (hW : Below w.heap.size w W) => ((hW.cell (World.block_lt_of_cell? w _ hcell)).trans hcell : W.cell? ⟨kb, off + k, none⟩ = some (.int .i64 (ce Cn k))))
        clear hcell hck hkm
        by_cases hc0 : ce Cn k < 0
        · have d7 : decide (ce Cn k < 0) = true := decide_eq_true hc0
          clear hc0
          go_wp2_with (first
            | (show wpList _ _ _ ({ dst := some 52, op := .build _ _, type := _, pos := _, after := _, guard := _ } :: _) _ _; refine wpList_yields (S := fun _ => True) (y_build (by rfl) (by rfl) built34) trivial ?_) | (show wpList _ _ _ ({ dst := none, op := .store _ (.tmp 9) (.tmp 52), type := _, pos := _, after := _, guard := _ } :: _) _ _; refine wpList_store_last rfl (.tmp 9) (.tmp 52) rfl _ rfl rfl oz oz rfl ?_; have B1 := Lib.hid (HB.out.alloc HB.out.size (.cells oz.cells.toArray 47)); have O1 := Lib.hid (OwO.below HO.out ((Below.refl wr.heap.size wr).alloc (Nat.le_refl _) (.cells oz.cells.toArray 47))); have G1 := Lib.hid (Blk.new wr 47 oz.cells.toArray); have L1 := Lib.hid HB.out.size; have NE := Lib.hid (show u6.ownBlock ≠ some wr.heap.size from fun e => Nat.lt_irrefl _ (World.ownsRow.lt HO.out _ e).2); generalize wr.alloc (.cells oz.cells.toArray 47) = w1 at B1 O1 G1 ⊢; generalize wr.heap.size = g at G1 L1 NE ⊢; have f1 := G1.out.frozen 1; have cz : w1.cell? ⟨g, 1, none⟩ = some (.int .i64 0) := G1.out.cell 1; try have cc := HCF.out _ B1.out)
            | (go_at_call 8; refine (known_by B1.out HT.out).mono ?_; rintro e_ wk ⟨rfl, bk_⟩; have BK := Lib.hid bk_; clear bk_))
          (try simp only [Exit.inBlock, Exit.then]); exact ⟨_, results_tmp rfl _ _ _, rfl, BK.out⟩
        · have d7 : decide (ce Cn k < 0) = false := decide_eq_false hc0
          by_cases hc1 : 4294967295 < ce Cn k
          · have d8 : decide (4294967295 < ce Cn k) = true := decide_eq_true hc1
            clear hc0 hc1
            go_wp2_with (first
              | (show wpList _ _ _ ({ dst := some 52, op := .build _ _, type := _, pos := _, after := _, guard := _ } :: _) _ _; refine wpList_yields (S := fun _ => True) (y_build (by rfl) (by rfl) built34) trivial ?_) | (show wpList _ _ _ ({ dst := none, op := .store _ (.tmp 9) (.tmp 52), type := _, pos := _, after := _, guard := _ } :: _) _ _; refine wpList_store_last rfl (.tmp 9) (.tmp 52) rfl _ rfl rfl oz oz rfl ?_; have B1 := Lib.hid (HB.out.alloc HB.out.size (.cells oz.cells.toArray 47)); have O1 := Lib.hid (OwO.below HO.out ((Below.refl wr.heap.size wr).alloc (Nat.le_refl _) (.cells oz.cells.toArray 47))); have G1 := Lib.hid (Blk.new wr 47 oz.cells.toArray); have L1 := Lib.hid HB.out.size; have NE := Lib.hid (show u6.ownBlock ≠ some wr.heap.size from fun e => Nat.lt_irrefl _ (World.ownsRow.lt HO.out _ e).2); generalize wr.alloc (.cells oz.cells.toArray 47) = w1 at B1 O1 G1 ⊢; generalize wr.heap.size = g at G1 L1 NE ⊢; have f1 := G1.out.frozen 1; have cz : w1.cell? ⟨g, 1, none⟩ = some (.int .i64 0) := G1.out.cell 1; try have cc := HCF.out _ B1.out)
              | (go_at_call 8; refine (known_by B1.out HT.out).mono ?_; rintro e_ wk ⟨rfl, bk_⟩; have BK := Lib.hid bk_; clear bk_))
            (try simp only [Exit.inBlock, Exit.then]); exact ⟨_, results_tmp rfl _ _ _, rfl, BK.out⟩
          · have d8 : decide (4294967295 < ce Cn k) = false := decide_eq_false hc1
            have HCR := Lib.hid (show 0 ≤ ce Cn k ∧ ce Cn k ≤ 4294967295 by omega)
            clear hc0 hc1
            by_cases hc2 : ce Cn k < 4294967295
            · have d9 : decide (ce Cn k < 4294967295) = true := decide_eq_true hc2
              have HCN := Lib.hid (show (cntF Cn (k + 1) : Int) = (cntF Cn k : Int) + 1 by rw [cntF_succ, if_pos hc2]; rfl)
              clear hc2
              go_wp2_with (first
                | (show wpList _ _ _ ({ dst := some 52, op := .build _ _, type := _, pos := _, after := _, guard := _ } :: _) _ _; refine wpList_yields (S := fun _ => True) (y_build (by rfl) (by rfl) built34) trivial ?_) | (show wpList _ _ _ ({ dst := none, op := .store _ (.tmp 9) (.tmp 52), type := _, pos := _, after := _, guard := _ } :: _) _ _; refine wpList_store_last rfl (.tmp 9) (.tmp 52) rfl _ rfl rfl oz oz rfl ?_; have B1 := Lib.hid (HB.out.alloc HB.out.size (.cells oz.cells.toArray 47)); have O1 := Lib.hid (OwO.below HO.out ((Below.refl wr.heap.size wr).alloc (Nat.le_refl _) (.cells oz.cells.toArray 47))); have G1 := Lib.hid (Blk.new wr 47 oz.cells.toArray); have L1 := Lib.hid HB.out.size; have NE := Lib.hid (show u6.ownBlock ≠ some wr.heap.size from fun e => Nat.lt_irrefl _ (World.ownsRow.lt HO.out _ e).2); generalize wr.alloc (.cells oz.cells.toArray 47) = w1 at B1 O1 G1 ⊢; generalize wr.heap.size = g at G1 L1 NE ⊢; have f1 := G1.out.frozen 1; have cz : w1.cell? ⟨g, 1, none⟩ = some (.int .i64 0) := G1.out.cell 1; try have cc := HCF.out _ B1.out)
                | (show wpList _ _ _ ({ dst := some 76, op := .load _ _, type := _, pos := _, after := _, guard := _ } :: _) _ _; have B2 := Lib.hid (B1.out.setCell (p := ⟨g, 1, none⟩) L1.out (.int .i64 (ce Cn k))); have O2 := Lib.hid (OwO.cell O1.out (.int .i64 (ce Cn k)) NE.out); have G2 := Lib.hid (oz_count (ce Cn k) ▸ G1.out.set_ 1 (.int .i64 (ce Cn k))); generalize w1.setCell ⟨g, 1, none⟩ (.int .i64 (ce Cn k)) = w2 at B2 O2 G2 ⊢; clear f1 cc cz; have c76 : w2.cell? ⟨g, 1, none⟩ = some (.int .i64 (ce Cn k)) := G2.out.cell 1; go_wp2_with (first | (show wpList _ _ _ ({ dst := some 81, op := .load _ _, type := _, pos := _, after := _, guard := _ } :: _) _ _; refine wpList_yields (S := fun w' => ObAt w' g 0 (oKC 0 (ce Cn k))) (y_ob (by rfl) (.tmp 9) (by rfl) g 0 (by rfl) (oKC 0 (ce Cn k)) (fun _ h => h)) G2.out.ob ?_) | (show wpList _ _ _ ({ dst := some 82, op := .buildSlice _ _ _, type := _, pos := _, after := _, guard := _ } :: _) _ _; refine wpList_buildSlice34 rfl (.tmp 81) rfl (oKC 0 (ce Cn k)) rfl ?_) | (refine wpList_append_ob rfl (.tmp 80) (.tmp 82) rfl rfl O2.out (oKC 0 (ce Cn k)) rfl (by rw [rowF_len]; have := HK.out; have := HHB.out; omega) B2.out.size ?_; intro g5 c5 w5 ho5 hb5; have O5 := Lib.hid ho5; have B5 := Lib.hid (B2.out.trans hb5); clear ho5 hb5))))
              go_roundw
              case rel => exact ⟨k + 1, by have := HLT.out; omega, by go_num, by rw [HCN.out], by have := O5.out; rwa [rowF_succ] at this, B5.out, fun i hi => by
                rcases Nat.lt_or_ge i k with h' | h'
                · exact HCE.out i h'
                · obtain rfl : i = k := by omega
                  exact HCR.out⟩
              case measure => have := HLT.out; simp [intOf]; omega
            · have d9 : decide (ce Cn k < 4294967295) = false := decide_eq_false hc2
              have HCN := Lib.hid (show (cntF Cn (k + 1) : Int) = (cntF Cn k : Int) by rw [cntF_succ, if_neg hc2]; rfl)
              clear hc2
              go_wp2_with (first
                | (show wpList _ _ _ ({ dst := some 52, op := .build _ _, type := _, pos := _, after := _, guard := _ } :: _) _ _; refine wpList_yields (S := fun _ => True) (y_build (by rfl) (by rfl) built34) trivial ?_) | (show wpList _ _ _ ({ dst := none, op := .store _ (.tmp 9) (.tmp 52), type := _, pos := _, after := _, guard := _ } :: _) _ _; refine wpList_store_last rfl (.tmp 9) (.tmp 52) rfl _ rfl rfl oz oz rfl ?_; have B1 := Lib.hid (HB.out.alloc HB.out.size (.cells oz.cells.toArray 47)); have O1 := Lib.hid (OwO.below HO.out ((Below.refl wr.heap.size wr).alloc (Nat.le_refl _) (.cells oz.cells.toArray 47))); have G1 := Lib.hid (Blk.new wr 47 oz.cells.toArray); have L1 := Lib.hid HB.out.size; have NE := Lib.hid (show u6.ownBlock ≠ some wr.heap.size from fun e => Nat.lt_irrefl _ (World.ownsRow.lt HO.out _ e).2); generalize wr.alloc (.cells oz.cells.toArray 47) = w1 at B1 O1 G1 ⊢; generalize wr.heap.size = g at G1 L1 NE ⊢; have f1 := G1.out.frozen 1; have cz : w1.cell? ⟨g, 1, none⟩ = some (.int .i64 0) := G1.out.cell 1; try have cc := HCF.out _ B1.out)
                | (show wpList _ _ _ ({ dst := some 76, op := .load _ _, type := _, pos := _, after := _, guard := _ } :: _) _ _; have B2 := Lib.hid (B1.out.setCell (p := ⟨g, 1, none⟩) L1.out (.int .i64 (ce Cn k))); have O2 := Lib.hid (OwO.cell O1.out (.int .i64 (ce Cn k)) NE.out); have G2 := Lib.hid (oz_count (ce Cn k) ▸ G1.out.set_ 1 (.int .i64 (ce Cn k))); generalize w1.setCell ⟨g, 1, none⟩ (.int .i64 (ce Cn k)) = w2 at B2 O2 G2 ⊢; clear f1 cc cz; have c76 : w2.cell? ⟨g, 1, none⟩ = some (.int .i64 (ce Cn k)) := G2.out.cell 1; go_wp2_with (first | (show wpList _ _ _ ({ dst := some 81, op := .load _ _, type := _, pos := _, after := _, guard := _ } :: _) _ _; refine wpList_yields (S := fun w' => ObAt w' g 0 (oKC 0 (ce Cn k))) (y_ob (by rfl) (.tmp 9) (by rfl) g 0 (by rfl) (oKC 0 (ce Cn k)) (fun _ h => h)) G2.out.ob ?_) | (show wpList _ _ _ ({ dst := some 82, op := .buildSlice _ _ _, type := _, pos := _, after := _, guard := _ } :: _) _ _; refine wpList_buildSlice34 rfl (.tmp 81) rfl (oKC 0 (ce Cn k)) rfl ?_) | (refine wpList_append_ob rfl (.tmp 80) (.tmp 82) rfl rfl O2.out (oKC 0 (ce Cn k)) rfl (by rw [rowF_len]; have := HK.out; have := HHB.out; omega) B2.out.size ?_; intro g5 c5 w5 ho5 hb5; have O5 := Lib.hid ho5; have B5 := Lib.hid (B2.out.trans hb5); clear ho5 hb5))))
              go_roundw
              case rel => exact ⟨k + 1, by have := HLT.out; omega, by go_num, by rw [HCN.out], by have := O5.out; rwa [rowF_succ] at this, B5.out, fun i hi => by
                rcases Nat.lt_or_ge i k with h' | h'
                · exact HCE.out i h'
                · obtain rfl : i = k := by omega
                  exact HCR.out⟩
              case measure => have := HLT.out; simp [intOf]; omega
      · have d6 : decide ((k : Int) < (m : Int)) = false := decide_eq_false (by omega)
        have d6' : decide (k < m) = false := decide_eq_false hkm
        have hc0 : ce Cn k = 0 := by unfold ce; rw [List.getElem?_eq_none (by rw [HLEN.out]; omega)]; rfl
        have HCR := Lib.hid (show 0 ≤ ce Cn k ∧ ce Cn k ≤ 4294967295 by omega)
        have d9 : decide (ce Cn k < 4294967295) = true := decide_eq_true (by omega)
        have HCN := Lib.hid (show (cntF Cn (k + 1) : Int) = (cntF Cn k : Int) + 1 by rw [cntF_succ, if_pos (by omega)]; rfl)
        have HC0 := Lib.hid hc0
        clear hkm hc0
        go_wp2_with (first
          | (show wpList _ _ _ ({ dst := some 52, op := .build _ _, type := _, pos := _, after := _, guard := _ } :: _) _ _; refine wpList_yields (S := fun _ => True) (y_build (by rfl) (by rfl) built34) trivial ?_) | (show wpList _ _ _ ({ dst := none, op := .store _ (.tmp 9) (.tmp 52), type := _, pos := _, after := _, guard := _ } :: _) _ _; refine wpList_store_last rfl (.tmp 9) (.tmp 52) rfl _ rfl rfl oz oz rfl ?_; have B1 := Lib.hid (HB.out.alloc HB.out.size (.cells oz.cells.toArray 47)); have O1 := Lib.hid (OwO.below HO.out ((Below.refl wr.heap.size wr).alloc (Nat.le_refl _) (.cells oz.cells.toArray 47))); have G1 := Lib.hid (Blk.new wr 47 oz.cells.toArray); have L1 := Lib.hid HB.out.size; have NE := Lib.hid (show u6.ownBlock ≠ some wr.heap.size from fun e => Nat.lt_irrefl _ (World.ownsRow.lt HO.out _ e).2); generalize wr.alloc (.cells oz.cells.toArray 47) = w1 at B1 O1 G1 ⊢; generalize wr.heap.size = g at G1 L1 NE ⊢; have f1 := G1.out.frozen 1; have cz : w1.cell? ⟨g, 1, none⟩ = some (.int .i64 0) := G1.out.cell 1; try have cc := HCF.out _ B1.out)
          | (show wpList _ _ _ ({ dst := some 76, op := .load _ _, type := _, pos := _, after := _, guard := _ } :: _) _ _; have G2 : Hid (Blk w1 g 47 (oKC 0 (ce Cn k)).cells.toArray) := Lib.hid (by rw [HC0.out]; exact G1.out); have B2 := B1; have O2 := O1; clear f1 cz; have c76 : w1.cell? ⟨g, 1, none⟩ = some (.int .i64 (ce Cn k)) := G2.out.cell 1; go_wp2_with (first | (show wpList _ _ _ ({ dst := some 81, op := .load _ _, type := _, pos := _, after := _, guard := _ } :: _) _ _; refine wpList_yields (S := fun w' => ObAt w' g 0 (oKC 0 (ce Cn k))) (y_ob (by rfl) (.tmp 9) (by rfl) g 0 (by rfl) (oKC 0 (ce Cn k)) (fun _ h => h)) G2.out.ob ?_) | (show wpList _ _ _ ({ dst := some 82, op := .buildSlice _ _ _, type := _, pos := _, after := _, guard := _ } :: _) _ _; refine wpList_buildSlice34 rfl (.tmp 81) rfl (oKC 0 (ce Cn k)) rfl ?_) | (refine wpList_append_ob rfl (.tmp 80) (.tmp 82) rfl rfl O2.out (oKC 0 (ce Cn k)) rfl (by rw [rowF_len]; have := HK.out; have := HHB.out; omega) B2.out.size ?_; intro g5 c5 w5 ho5 hb5; have O5 := Lib.hid ho5; have B5 := Lib.hid (B2.out.trans hb5); clear ho5 hb5))))
        go_roundw
        case rel => exact ⟨k + 1, by have := HLT.out; omega, by go_num, by rw [HCN.out], by have := O5.out; rwa [rowF_succ] at this, B5.out, fun i hi => by
          rcases Nat.lt_or_ge i k with h' | h'
          · exact HCE.out i h'
          · obtain rfl : i = k := by omega
            exact HCR.out⟩
        case measure => have := HLT.out; simp [intOf]; omega
    · obtain rfl : n = k := by omega
      obtain ⟨wo, rfl⟩ : ∃ wo, wo = wr := ⟨wr, rfl⟩
      have d5 : decide ((n : Int) < (n : Int)) = false := decide_eq_false (by omega)
      have d5' : decide (n < n) = false := decide_eq_false (by omega)
      have HMP := Lib.hid (fun p => fullP (Cn := Cn) ⟨HHB.out.1, HHB.out.2.1⟩ HCE.out p)
      have hown := HO.out
      rw [rowF_Lp] at hown
      obtain ⟨g6, c6, hu6⟩ := OwO.shape hown (by rw [Lp_len]; omega)
      rw [show (Lp ((List.range n).map (ce Cn)) 0).length = n + 1 by rw [Lp_len, List.length_map, List.length_range]] at hu6
      subst hu6
      have HR6 := Lib.hid (show RdO wo (some ⟨g6, 0, none⟩) (Lp (csF n Cn) 0) from RdO.of_own hown)
      have HTR := Lib.hid (HT.out.below HB.out)
      have HMD := Lib.hid (show Calls Tryd.prog 7 #[.slice (some ⟨g6, 0, none⟩) (n + 1) c6] wo fun e w' => ∃ q, e = .returned (pv q) ∧ wo.heap.size ≤ q ∧ (∃ A' cap' ps, StAt w' q q A' cap' ps (Lp (csF n Cn) 0)) ∧ Below wo.heap.size wo w' from by
        have := made_yes (cap := c6) HTR.out HR6.out (HMP.out 0)
        rwa [Lp_len, csF_len] at this)
      have HGC := Lib.hid (csF_gc n Cn)
      clear hown hk hn18
      go_wp2_with (first
        | (go_at_call 7; refine HMD.out.mono ?_; rintro e_ w1 ⟨q, rfl, hq, ⟨A, cap, ps, hs⟩, b_⟩; have S1 := Lib.hid (show Sn wo w1 q A cap ps (Lp (csF n Cn) 0) from ⟨b_, hs, hq⟩); clear hq hs b_)
        | (show wpList _ _ _ ({ dst := some 88, op := .build _ _, type := _, pos := _, after := _, guard := _ } :: _) _ _; refine wpList_yields (S := fun _ => True) (y_build2 (by rfl) (by rfl) HX.out) trivial ?_)
        | (show wpList _ _ _ ({ dst := none, op := .store _ (.tmp 11) (.tmp 88), type := _, pos := _, after := _, guard := _ } :: _) _ _; refine wpList_store_new (l := kl x) (l0 := kl zk) (ty := 33) rfl (.tmp 11) (.tmp 88) (by rfl) _ rfl (by rfl) (by rfl) size30 rfl (kl_one _) ?_; have S2 := Lib.hid (S1.out.alloc (.cells (kl x).toArray 33)); have G2 := Lib.hid (Blk.new w1 33 (kl x).toArray); generalize w1.alloc (.cells (kl x).toArray 33) = w2 at S2 G2 ⊢; generalize w1.heap.size = g at G2 ⊢))
      go_loopw [12, 13] (fun q12 q13 wv => ∃ i p : Nat, i ≤ cntF Cn n ∧ p ≤ n ∧ q13 = .int .i64 (i : Int) ∧ q12 = .int .i64 (p : Int) ∧ gc (csF n Cn) p = i ∧ Sn wo wv q A cap ps (Lp (csF n Cn) p) ∧ Blk wv g 33 (kl x).toArray) (fun _ q13 _ => cntF Cn n + 1 - (intOf q13).toNat)
      case atStart => exact ⟨0, 0, by omega, by omega, rfl, rfl, by simp [gc], S2.out, G2.out⟩
      case round =>
        obtain ⟨i, p, hi, hp, rfl, rfl, hgc, hs, hg⟩ := hrel
        clear S1 S2 G2
        have HS := Lib.hid hs
        have HG := Lib.hid hg
        have HMA := HMP.out p
        have HOK := Lib.hid HMA.2.2.2
        have HN0 := Lib.hid (show 0 < (Lp (csF n Cn) p).length from HMA.2.1)
        have HN64 := Lib.hid HMA.2.2.1
        have HBK := Lib.hid (show BkD (Lp (csF n Cn) p) x 0 (fB n) 1 n by rw [HXE.out]; exact fX_d (by rw [Lp_len, csF_len]) (by have := Lp_0 (cs := csF n Cn) p; rwa [csF_len] at this) HHB.out.1)
        clear hs hg HMA
        by_cases hlt : i < cntF Cn n
        · obtain ⟨j, hj, hpj, hcj, hgj, hnj⟩ := gc_next (cs := csF n Cn) (n - p) p (by rw [csF_len]; omega) (by rw [csF_len, HGC.out, hgc]; exact hlt)
          obtain ⟨hf, hL, hK⟩ := Lp_make hj hpj hcj hnj
          obtain ⟨cj, hcje⟩ : ∃ cj, cj = (csF n Cn)[j]'hj := ⟨_, rfl⟩
          rw [← hcje] at hcj hK
          have hcr := csF_ok HCE.out _ (List.getElem_mem hj)
          rw [← hcje] at hcr
          have hrow := (HR6.out (1 + j) (by rw [Lp_len]; omega))
          obtain ⟨jj, hjj⟩ : ∃ jj, jj = 1 + j := ⟨_, rfl⟩
          have hjn : j < n := by rw [csF_len] at hj; exact hj
          rw [csF_len] at hf hL
          have HMK := Lib.hid (fun W (hW : Sn wo W q A cap ps (Lp (csF n Cn) p)) => make_by (y := x) (i := 2) (L' := Lp (csF n Cn) jj) (z := ⟨3, (jj : Int), cj + 1, 0, 0, 0⟩) (e := 0) hW HTR.out HOK.out HN0.out HN64.out (by rw [mkA_some HBK.out (.inr rfl) hf, hL, show ((2 : Int) + 1) = 3 from rfl, hK, hjj, Nat.add_comm 1 j]))
          obtain ⟨b6, off6, he6, hob6⟩ := hrow
          have h60 : b6 = g6 ∧ off6 = 0 := by injection he6 with he6; injection he6 with e1 e2; exact ⟨e1.symm, e2.symm⟩
          obtain ⟨rfl, rfl⟩ := h60
          have hcell : wo.cell? ⟨b6, jj * 163 + 1, none⟩ = some (.int .i64 cj) := by
            have h1 := hob6.cells.2.1
            have h2 := Lp_s (cs := csF n Cn) 0 j hj
            rw [List.getElem?_eq_getElem (by rw [Lp_len]; omega), if_neg (by omega)] at h2
            rw [Option.some.inj h2, Nat.zero_add, ← hjj, ← hcje] at h1
            exact h1
          have HCL6 := Lib.hid (fun W (hW : Below wo.heap.size wo W) => ((hW.cell (World.block_lt_of_cell? _ _ hcell)).trans hcell : W.cell? ⟨b6, jj * 163 + 1, none⟩ = some (.int .i64 cj)))
          have HJ := Lib.hid (show jj ≤ n ∧ gc (csF n Cn) jj = i + 1 by rw [hjj, Nat.add_comm 1 j]; exact ⟨by omega, by rw [hgj, hgc]⟩)
          have HLT := Lib.hid hlt
          have f1 : decide ((i : Int) < (cntF Cn n : Int)) = true := decide_eq_true (by omega)
          have f2 : decide (i < cntF Cn n) = true := decide_eq_true hlt
          have f3 : decide ((jj : Int) ≤ (p : Int)) = false := decide_eq_false (by omega)
          have f4 : decide (jj ≤ p) = false := decide_eq_false (by omega)
          have f5 : (jj : Int) < (n : Int) + 1 := by omega
          have f6 : IntKind.i64.wrap (cj + 1) = cj + 1 := IntWalk.i64_in _ (by omega)
          have f7 : (i : Int) ≤ 18 := by have := cntF_le Cn n; have := HHB.out; omega
          clear hlt hj hpj hcj hgj hnj hf hL hK hcje hcr hjn he6 hob6 hcell hjj hgc hi hp
          go_wp2_with (first
            | (show wpList _ _ _ ({ dst := some 96, op := .load _ _, type := _, pos := _, after := _, guard := _ } :: _) _ _; refine wpList_yields (S := fun w' => KeyAt w' g 0 x) (y_kyB (by rfl) (.tmp 11) (by rfl) g 0 (by rfl) x (fun _ h => h)) (keyAt_of HG.out) ?_)
            | (go_at_call 10; refine (HMK.out _ HS.out).mono ?_; rintro e_ w5 ⟨rfl, s_, k_⟩; have T1 := Lib.hid s_; have K1 := Lib.hid (k_ _ _ _ HG.out (by decide)); clear s_ k_)
            | (show wpList _ _ _ ({ dst := none, op := .store _ (.tmp 14) (.tmp 98), type := _, pos := _, after := _, guard := _ } :: _) _ _; refine wpList_store_new (l := kl ⟨3, (jj : Int), cj + 1, 0, 0, 0⟩) (l0 := kl zk) (ty := 33) rfl (.tmp 14) (.tmp 98) (by rfl) _ rfl (by rfl) (by rfl) size30 rfl (kl_one _) ?_; have T2 := Lib.hid (T1.out.alloc (.cells (kl ⟨3, (jj : Int), cj + 1, 0, 0, 0⟩).toArray 33)); have K2 := Lib.hid (K1.out.alloc (.cells (kl ⟨3, (jj : Int), cj + 1, 0, 0, 0⟩).toArray 33)); have J2 := Lib.hid (Blk.new w5 33 (kl ⟨3, (jj : Int), cj + 1, 0, 0, 0⟩).toArray); generalize w5.alloc (.cells (kl ⟨3, (jj : Int), cj + 1, 0, 0, 0⟩).toArray 33) = w6 at T2 K2 J2 ⊢; generalize w5.heap.size = h at J2 ⊢; have c1 : w6.cell? ⟨h, 1, none⟩ = some (.int .i64 (jj : Int)) := J2.out.cell 1; have c2 : w6.cell? ⟨h, 2, none⟩ = some (.int .i64 (cj + 1)) := J2.out.cell 2; have c3 := HCL6.out _ T2.out.bel))
          refine wp_region_only (S := fun w' => w'.cell? ⟨h, 1, none⟩ = some (.int .i64 (jj : Int)) ∧ w'.cell? ⟨h, 2, none⟩ = some (.int .i64 (cj + 1)) ∧ w'.cell? ⟨b6, jj * 163 + 1, none⟩ = some (.int .i64 cj)) (by kernel_rfl) ⟨J2.out.drew.cell 1, J2.out.drew.cell 2, HCL6.out _ (below_drew T2.out.bel)⟩ (fun hHeld => ?_)
          refine wpAnyH_take (i := 0) (v := ?v1) rfl (by kernel_rfl) (by kernel_rfl) (by kernel_rfl) (fun _ _ _ h => h) (Or.inl ⟨by rfl, ?hy1⟩) hHeld ?rest1
          case hy1 =>
            intro w' hSw
            try dsimp only at hSw
            go_simp
            first | done | with_reducible rfl
          try simp only [Act.put, List.getElem_toArray, List.getElem_cons_zero, List.setIfInBounds_toArray, List.set_cons_zero, List.set_cons_succ]
          refine wpAnyH_take (i := 1) (v := ?v2) rfl (by kernel_rfl) (by kernel_rfl) (by kernel_rfl) (fun _ _ _ h => h) (Or.inl ⟨by rfl, ?hy2⟩) hHeld ?rest2
          case hy2 =>
            intro w' hSw
            try dsimp only at hSw
            go_simp
            first | done | with_reducible rfl
          try simp only [Act.put, List.getElem_toArray, List.getElem_cons_succ, List.getElem_cons_zero, List.setIfInBounds_toArray, List.set_cons_zero, List.set_cons_succ]
          refine wpAnyH_take (i := 2) (v := ?v3) rfl (by kernel_rfl) (by kernel_rfl) (by kernel_rfl) (fun _ _ _ h => h) (Or.inl ⟨by rfl, ?hy3⟩) hHeld ?rest3
          case hy3 =>
            intro w' hSw
            try dsimp only at hSw
            go_simp
            first | done | with_reducible rfl
          try simp only [Act.put, List.getElem_toArray, List.getElem_cons_succ, List.getElem_cons_zero, List.setIfInBounds_toArray, List.set_cons_zero, List.set_cons_succ]
          refine wpAnyH_take (i := 3) (v := ?v4) rfl (by kernel_rfl) (by kernel_rfl) (by kernel_rfl) (fun _ _ _ h => h) (Or.inl ⟨by rfl, ?hy4⟩) hHeld ?rest4
          case hy4 =>
            intro w' hSw
            try dsimp only at hSw
            go_simp
            first | done | with_reducible rfl
          try simp only [Act.put, List.getElem_toArray, List.getElem_cons_succ, List.getElem_cons_zero, List.setIfInBounds_toArray, List.set_cons_zero, List.set_cons_succ]
          refine wpAnyH_take (i := 4) (v := ?v5) rfl (by kernel_rfl) (by kernel_rfl) (by kernel_rfl) (fun _ _ _ h => h) (Or.inl ⟨by rfl, ?hy5⟩) hHeld ?rest5
          case hy5 =>
            intro w' hSw
            try dsimp only at hSw
            go_simp
            first | done | with_reducible rfl
          try simp only [Act.put, List.getElem_toArray, List.getElem_cons_succ, List.getElem_cons_zero, List.setIfInBounds_toArray, List.set_cons_zero, List.set_cons_succ]
          refine wpAnyH_take (i := 5) (v := ?v6) rfl (by kernel_rfl) (by kernel_rfl) (by kernel_rfl) (fun _ _ _ h => h) (Or.inl ⟨by rfl, ?hy6⟩) hHeld ?rest6
          case hy6 =>
            intro w' hSw
            try dsimp only at hSw
            go_simp
            first | done | with_reducible rfl
          try simp only [Act.put, List.getElem_toArray, List.getElem_cons_succ, List.getElem_cons_zero, List.setIfInBounds_toArray, List.set_cons_zero, List.set_cons_succ]
          refine wpAnyH_take (i := 6) (v := ?v7) rfl (by kernel_rfl) (by kernel_rfl) (by kernel_rfl) (fun _ _ _ h => h) (Or.inl ⟨by rfl, ?hy7⟩) hHeld ?rest7
          case hy7 =>
            intro w' hSw
            try dsimp only at hSw
            go_simp
            first | done | with_reducible rfl
          try simp only [Act.put, List.getElem_toArray, List.getElem_cons_succ, List.getElem_cons_zero, List.setIfInBounds_toArray, List.set_cons_zero, List.set_cons_succ]
          refine wpAnyH_take (i := 7) (v := ?v8) rfl (by kernel_rfl) (by kernel_rfl) (by kernel_rfl) (fun _ _ _ h => h) (Or.inl ⟨by rfl, ?hy8⟩) hHeld ?rest8
          case hy8 =>
            intro w' hSw
            try dsimp only at hSw
            go_simp
            first | done | with_reducible rfl
          try simp only [Act.put, List.getElem_toArray, List.getElem_cons_succ, List.getElem_cons_zero, List.setIfInBounds_toArray, List.set_cons_zero, List.set_cons_succ]
          refine wpAnyH_take (i := 8) (v := ?v9) rfl (by kernel_rfl) (by kernel_rfl) (by kernel_rfl) (fun _ _ _ h => h) (Or.inl ⟨by rfl, ?hy9⟩) hHeld ?rest9
          case hy9 =>
            intro w' hSw
            try dsimp only at hSw
            go_simp
            first | done | with_reducible rfl
          try simp only [Act.put, List.getElem_toArray, List.getElem_cons_succ, List.getElem_cons_zero, List.setIfInBounds_toArray, List.set_cons_zero, List.set_cons_succ]
          refine wpAnyH_take (i := 9) (v := ?v10) rfl (by kernel_rfl) (by kernel_rfl) (by kernel_rfl) (fun _ _ _ h => h) (Or.inl ⟨by rfl, ?hy10⟩) hHeld ?rest10
          case hy10 =>
            intro w' hSw
            try dsimp only at hSw
            go_simp
            first | done | with_reducible rfl
          try simp only [Act.put, List.getElem_toArray, List.getElem_cons_succ, List.getElem_cons_zero, List.setIfInBounds_toArray, List.set_cons_zero, List.set_cons_succ]
          refine wpAnyH_take (i := 10) (v := ?v11) rfl (by kernel_rfl) (by kernel_rfl) (by kernel_rfl) (fun _ _ _ h => h) (Or.inl ⟨by rfl, ?hy11⟩) hHeld ?rest11
          case hy11 =>
            intro w' hSw
            try dsimp only at hSw
            go_simp
            first | done | with_reducible rfl
          try simp only [Act.put, List.getElem_toArray, List.getElem_cons_succ, List.getElem_cons_zero, List.setIfInBounds_toArray, List.set_cons_zero, List.set_cons_succ]
          refine wpAnyH_take (i := 11) (v := ?v12) rfl (by kernel_rfl) (by kernel_rfl) (by kernel_rfl) (fun _ _ _ h => h) (Or.inl ⟨by rfl, ?hy12⟩) hHeld ?rest12
          case hy12 =>
            intro w' hSw
            try dsimp only at hSw
            go_simp
            first | done | with_reducible rfl
          try simp only [Act.put, List.getElem_toArray, List.getElem_cons_succ, List.getElem_cons_zero, List.setIfInBounds_toArray, List.set_cons_zero, List.set_cons_succ]
          refine wpAnyH_take (i := 12) (v := ?v13) rfl (by kernel_rfl) (by kernel_rfl) (by kernel_rfl) (fun _ _ _ h => h) (Or.inl ⟨by rfl, ?hy13⟩) hHeld ?rest13
          case hy13 =>
            intro w' hSw
            try dsimp only at hSw
            go_simp
            first | done | with_reducible rfl
          try simp only [Act.put, List.getElem_toArray, List.getElem_cons_succ, List.getElem_cons_zero, List.setIfInBounds_toArray, List.set_cons_zero, List.set_cons_succ]
          refine wpAnyH_take (i := 13) (v := ?v14) rfl (by kernel_rfl) (by kernel_rfl) (by kernel_rfl) (fun _ _ _ h => h) (Or.inl ⟨by rfl, ?hy14⟩) hHeld ?rest14
          case hy14 =>
            intro w' hSw
            try dsimp only at hSw
            go_simp
            first | done | with_reducible rfl
          try simp only [Act.put, List.getElem_toArray, List.getElem_cons_succ, List.getElem_cons_zero, List.setIfInBounds_toArray, List.set_cons_zero, List.set_cons_succ]
          refine wpAnyH_take (i := 14) (v := ?v15) rfl (by kernel_rfl) (by kernel_rfl) (by kernel_rfl) (fun _ _ _ h => h) (Or.inl ⟨by rfl, ?hy15⟩) hHeld ?rest15
          case hy15 =>
            intro w' hSw
            try dsimp only at hSw
            go_simp
            first | done | with_reducible rfl
          try simp only [Act.put, List.getElem_toArray, List.getElem_cons_succ, List.getElem_cons_zero, List.setIfInBounds_toArray, List.set_cons_zero, List.set_cons_succ]
          refine wpAnyH_take (i := 15) (v := ?v16) rfl (by kernel_rfl) (by kernel_rfl) (by kernel_rfl) (fun _ _ _ h => h) (Or.inl ⟨by rfl, ?hy16⟩) hHeld ?rest16
          case hy16 =>
            intro w' hSw
            try dsimp only at hSw
            go_simp
            first | done | with_reducible rfl
          try simp only [Act.put, List.getElem_toArray, List.getElem_cons_succ, List.getElem_cons_zero, List.setIfInBounds_toArray, List.set_cons_zero, List.set_cons_succ]
          refine wpAnyH_take (i := 16) (v := ?v17) rfl (by kernel_rfl) (by kernel_rfl) (by kernel_rfl) (fun _ _ _ h => h) (Or.inl ⟨by rfl, ?hy17⟩) hHeld ?rest17
          case hy17 =>
            intro w' hSw
            try dsimp only at hSw
            go_simp
            first | done | with_reducible rfl
          try simp only [Act.put, List.getElem_toArray, List.getElem_cons_succ, List.getElem_cons_zero, List.setIfInBounds_toArray, List.set_cons_zero, List.set_cons_succ]
          refine wpAnyH_take (i := 17) (v := ?v18) rfl (by kernel_rfl) (by kernel_rfl) (by kernel_rfl) (fun _ _ _ h => h) (Or.inl ⟨by rfl, ?hy18⟩) hHeld ?rest18
          case hy18 =>
            intro w' hSw
            try dsimp only at hSw
            go_simp
            first | done | with_reducible rfl
          try simp only [Act.put, List.getElem_toArray, List.getElem_cons_succ, List.getElem_cons_zero, List.setIfInBounds_toArray, List.set_cons_zero, List.set_cons_succ]
          refine wpAnyH_take (i := 18) (v := ?v19) rfl (by kernel_rfl) (by kernel_rfl) (by kernel_rfl) (fun _ _ _ h => h) (Or.inl ⟨by rfl, ?hy19⟩) hHeld ?rest19
          case hy19 =>
            intro w' hSw
            try dsimp only at hSw
            go_simp
            first | done | with_reducible rfl
          try simp only [Act.put, List.getElem_toArray, List.getElem_cons_succ, List.getElem_cons_zero, List.setIfInBounds_toArray, List.set_cons_zero, List.set_cons_succ]
          refine wpAnyH_take (i := 19) (v := ?v20) rfl (by kernel_rfl) (by kernel_rfl) (by kernel_rfl) (fun _ _ _ h => h) (Or.inl ⟨by rfl, ?hy20⟩) hHeld ?rest20
          case hy20 =>
            intro w' hSw
            try dsimp only at hSw
            go_simp
            first | done | with_reducible rfl
          try simp only [Act.put, List.getElem_toArray, List.getElem_cons_succ, List.getElem_cons_zero, List.setIfInBounds_toArray, List.set_cons_zero, List.set_cons_succ]
          refine wpAnyH_done (by kernel_rfl) ?_ _
          refine OnlyN.normal ?_
          go_wp2_with fail
          go_roundw
          case rel => exact ⟨i + 1, jj, HLT.out, HJ.out.1, by go_num, rfl, HJ.out.2, T2.out.drew, K2.out.drew⟩
          case measure => have := HLT.out; simp [intOf]; omega
        · have hgc2 : gc (csF n Cn) p = cntF Cn n := by omega
          obtain ⟨R, L4, z4, e4, hm1, hrz, hokR, hlR, hm4, hl4, hlast⟩ := full3 ⟨HHB.out.1, HHB.out.2.1⟩ HCE.out HXE.out hgc2
          have HM1 := Lib.hid (fun W (hW : Sn wo W q A cap ps (Lp (csF n Cn) p)) => make_by hW HTR.out HOK.out HN0.out HN64.out hm1)
          have HMN := HMP.out n
          have HRZ := Lib.hid (fun W (hW : Sn wo W q A cap ps (Lp (csF n Cn) n)) => raze_by hW HTR.out HMN.2.2.2 HMN.2.1 HMN.2.2.1 hrz)
          have HM4 := Lib.hid (fun W (hW : Sn wo W q A cap ps R) => make_by hW HTR.out hokR (by omega) (by have := HHB.out; omega) hm4)
          have HL4 := Lib.hid hl4
          have HLS := Lib.hid hlast
          have f1 : decide ((i : Int) < (cntF Cn n : Int)) = false := decide_eq_false (by omega)
          have f2 : decide (i < cntF Cn n) = false := decide_eq_false hlt
          clear hlt hgc hgc2 hm1 hrz hokR hlR hm4 hl4 hlast HMN hi hp
          go_wp2_with (first
            | (show wpList _ _ _ ({ dst := some 136, op := .load _ _, type := _, pos := _, after := _, guard := _ } :: _) _ _; refine wpList_yields (S := fun w' => KeyAt w' g 0 x) (y_kyB (by rfl) (.tmp 11) (by rfl) g 0 (by rfl) x (fun _ h => h)) (keyAt_of G7.out) ?_) | (show wpList _ _ _ ({ dst := some 130, op := .load _ _, type := _, pos := _, after := _, guard := _ } :: _) _ _; refine wpList_yields (S := fun w' => KeyAt w' g 0 x) (y_kyB (by rfl) (.tmp 11) (by rfl) g 0 (by rfl) x (fun _ h => h)) (keyAt_of G6.out) ?_) | (show wpList _ _ _ ({ dst := some 124, op := .load _ _, type := _, pos := _, after := _, guard := _ } :: _) _ _; refine wpList_yields (S := fun w' => KeyAt w' g 0 x) (y_kyB (by rfl) (.tmp 11) (by rfl) g 0 (by rfl) x (fun _ h => h)) (keyAt_of HG.out) ?_) | (go_at_call 10; refine (HM4.out _ S7.out).mono ?_; rintro e_ w8 ⟨rfl, s_, k_⟩; have S8 := Lib.hid s_; have G8 := Lib.hid (k_ _ _ _ G7.out (by decide)); clear s_ k_) | (go_at_call 10; refine (HM1.out _ HS.out).mono ?_; rintro e_ w5 ⟨rfl, s_, k_⟩; have S5 := Lib.hid s_; have G5 := Lib.hid (k_ _ _ _ HG.out (by decide)); clear s_ k_) | (show wpList _ _ _ ({ dst := none, op := .store _ (.tmp 16) (.tmp 126), type := _, pos := _, after := _, guard := _ } :: _) _ _; refine wpList_store_new (l := kl zk) (l0 := kl zk) (ty := 33) rfl (.tmp 16) (.tmp 126) (by rfl) _ rfl (by rfl) (by rfl) size30 rfl (kl_one _) ?_; have S6 := Lib.hid (S5.out.alloc (.cells (kl zk).toArray 33)); have G6 := Lib.hid (G5.out.alloc (.cells (kl zk).toArray 33)); generalize w5.alloc (.cells (kl zk).toArray 33) = w6 at S6 G6 ⊢; generalize w5.heap.size = h6) | (go_at_call 13; refine (HRZ.out _ S6.out).mono ?_; rintro e_ w7 ⟨rfl, s_, k_⟩; have S7 := Lib.hid s_; have G7 := Lib.hid (k_ _ _ _ G6.out (by decide)); clear s_ k_) | (show wpList _ _ _ ({ dst := none, op := .store _ (.tmp 20) (.tmp 138), type := _, pos := _, after := _, guard := _ } :: _) _ _; refine wpList_store_new (l := kl z4) (l0 := kl zk) (ty := 33) rfl (.tmp 20) (.tmp 138) (by rfl) _ rfl (by rfl) (by rfl) size30 rfl (kl_one _) ?_; have S9 := Lib.hid (S8.out.alloc (.cells (kl z4).toArray 33)); have G9 := Lib.hid (G8.out.alloc (.cells (kl z4).toArray 33)); generalize w8.alloc (.cells (kl z4).toArray 33) = w9 at S9 G9 ⊢; generalize w8.heap.size = h9) | (go_at_call 16; refine (all_any _ (.inr ⟨q, rfl⟩) _).mono ?_; rintro e_ wA ⟨rfl, rfl⟩))
          have SA := Lib.hid ((S9.out.alloc (.cells #[.int .i64 0] 3)).alloc (.cells #[pv q] 25))
          have CA := Lib.hid ((Blk.new w9 3 #[.int .i64 0]).alloc (.cells #[pv q] 25))
          have QA := Lib.hid (show Blk ((w9.alloc (.cells #[.int .i64 0] 3)).alloc (.cells #[pv q] 25)) (w9.heap.size + 1) 25 #[pv q] from Blk.new_of _ _ _ (by simp))
          have ZA := Lib.hid (show ((w9.alloc (.cells #[.int .i64 0] 3)).alloc (.cells #[pv q] 25)).heap.size = w9.heap.size + 2 by simp)
          generalize ((w9.alloc (.cells #[.int .i64 0] 3)).alloc (.cells #[pv q] 25)) = W5 at SA CA QA ZA ⊢
          clear S5 S6 S7 S8 G5 G6 G7 G8 G9 HM1 HRZ HM4
          refine (show ∀ a0 : Act, a0 = _ → Code.wp _ _ _ a0 _ from ?_) _ rfl
          intro a0 ha0
          refine (wpIn_wide (n := 4)).1 ?_
          refine wpIn_rangeFunc_ownH (α := Ie L4) (Kp := KS q A ps) (w0 := W5) rfl (by omega) (gf := 43) (a := a0) (by rw [ha0]; rfl) trivial (enters_of Tryd.func43 (by kernel_rfl) rfl)
            (all1_in 3 (by omega) (w9.heap.size + 1) SA.out.st (by rw [HL4.out]; omega) (by rw [HL4.out]; have := HHB.out; omega) ((QA.out.cell 0).trans rfl)) (fun h k => h.trans k) (fun W l o o' => KS.put SA.out.st l o o') (Below.refl _ _) (fun _ => rfl)
            (fun pre W => ∃ v : Nat, v ≤ pre.length ∧ ((∀ o ∈ L4, ¬ good o) → v = 0) ∧ Blk W w9.heap.size 3 #[.int .i64 (v : Int)] ∧ Sn wo W q A cap ps L4 ∧ W5.heap.size ≤ W.heap.size)
            (fun _ _ _ => False)
            (fun pre X Y row hs hg hr => by
              obtain ⟨v, h1, h2, h3, h4, h5⟩ := hs
              exact ⟨v, h1, h2, own_blk W5.heap.size w9.heap.size _ (fun _ : Unit => _) () X Y row h3 hg hr, h4.own (by have := SA.out.bel.size; exact this) hg hr, Nat.le_trans h5 hg.size⟩)
            (fun _ _ _ _ _ hs _ _ => hs.elim) ⟨0, Nat.zero_le _, fun _ => rfl, CA.out, SA.out, Nat.le_refl _⟩
            (fun y a' W => ∃ b, W5.heap.size ≤ b ∧ a' = { tmps := ((a0.tmps.setIfInBounds 142 (.int .i64 (y.i : Int))).setIfInBounds 143 y.o.val).setIfInBounds 24 (.pointer (some ⟨b, 0, none⟩)), defers := a0.defers } ∧ Blk W b 47 y.o.cells.toArray)
            (fun y a' s X Y row hs hg hr => by
              obtain ⟨b, h1, h2, h3⟩ := hs
              exact ⟨b, h1, h2, own_blk W5.heap.size b _ (fun _ => _) s X Y row h3 hg hr⟩)
            ?assign ?body ?done ?stop
          case stop => exact fun _ _ _ _ _ _ hf _ => hf.elim
          case assign =>
            intro l pre y V K hJ hK
            obtain ⟨v, h1, h2, h3, h4, h5⟩ := hJ
            have hk := hK _ (V.alloc (.cells y.o.cells.toArray 47)) ((KeepsOthers.alloc V _).from _) (fun k hk => ((Below.refl V.heap.size V).alloc (Nat.le_refl _) _).block k (h4.st.lt k hk).2) ⟨v, h1, h2, h3.alloc _, h4.alloc _, by simp; omega⟩ ⟨V.heap.size, h5, rfl, Blk.new V _ _⟩
            subst ha0
            simp only [List.setIfInBounds_toArray, List.set_cons_zero, List.set_cons_succ] at hk
            have HKK := Lib.hid hk
            clear hK hk h1 h2 h3 h4 h5
            gi_wp2_with (refine wpListIn_store_last rfl (.tmp 24) (.tmp 143) rfl _ rfl rfl y.o oz rfl ?_)
            exact HKK.out
          case body =>
            rintro l pre y a' V hl _ ⟨v, h1, h2, h3, h4, h5⟩ ⟨b, hb, rfl, hbw⟩ hlen
            subst ha0
            simp only [List.setIfInBounds_toArray, List.set_cons_zero, List.set_cons_succ]
            have hv : (v : Int) ≤ 30 := by have := HL4.out; have := HHB.out; omega
            have ck := hbw.ob.cells.1
            have cc := hbw.ob.cells.2.1
            have HLT9 := Lib.hid (fun k (hk : stHas q A ps k) => (S9.out.st.lt k hk).2)
            have HPX := Lib.hid (show (pre ++ [y]).length = pre.length + 1 by simp)
            have H1 := Lib.hid h1
            have H2 := Lib.hid h2
            have H3 := Lib.hid h3
            have H4 := Lib.hid h4
            have H5 := Lib.hid h5
            have HC9 := Lib.hid (show wo.heap.size ≤ w9.heap.size from S9.out.bel.size)
            have c9 : V.cell? ⟨w9.heap.size, 0, none⟩ = some (.int .i64 (v : Int)) := h3.cell 0
            have f9 := h3.frozen 0
            clear h1 h2 h3 h4 h5 hbw hlen hl hb
            by_cases hk0 : y.o.k = 0
            · have g1 : (y.o.k == 0) = true := by simpa using hk0
              by_cases hc : y.o.c < 4294967295
              · have g2 : decide (y.o.c < 4294967295) = true := decide_eq_true hc
                have HGD := Lib.hid (show good y.o from ⟨hk0, hc⟩)
                clear hk0 hc
                gi_wp2_with fail
                refine ⟨(KeepsOthers.setCell _ _ _).from _, fun k hk => Below.heap_setCell _ _ _ _ (by have := HLT9.out k hk; simp; omega), v + 1, by have := HPX.out; have := H1.out; omega, fun hng => absurd HGD.out (hng _ (List.getElem_mem y.lt)), ?_, ⟨H4.out.bel.setCell (p := ⟨w9.heap.size, 0, none⟩) HC9.out _, H4.out.st.keep fun k hk => Below.heap_setCell _ _ _ _ (by have := HLT9.out k hk; simp; omega), H4.out.hq⟩, by have := H5.out; simpa [World.setCell] using this⟩
                exact H3.out.set_ 0 (.int .i64 ((v : Int) + 1))
              · have g2 : decide (y.o.c < 4294967295) = false := decide_eq_false hc
                clear hk0 hc
                gi_wp2_with fail
                exact ⟨KeepsFrom.refl _ _, fun k hk => rfl, v, by have := HPX.out; have := H1.out; omega, H2.out, H3.out, H4.out, H5.out⟩
            · have g1 : (y.o.k == 0) = false := by simpa using hk0
              clear hk0
              gi_wp2_with fail
              exact ⟨KeepsFrom.refl _ _, fun k hk => rfl, v, by have := HPX.out; have := H1.out; omega, H2.out, H3.out, H4.out, H5.out⟩
          case done =>
            rintro D xs V hD hS ⟨v, h1, h2, h3, h4, h5⟩ hK
            subst ha0
            have c9 : V.cell? ⟨w9.heap.size, 0, none⟩ = some (.int .i64 (v : Int)) := h3.cell 0
            have HBV := Lib.hid (show Below w.heap.size w V from HB.out.trans (h4.bel.mono HB.out.size))
            have HDD := Lib.hid (show w.heap.size ≤ D from by have := HBV.out.size; have := SA.out.bel.size; have := HB.out.size; omega)
            have HKD := Lib.hid hK
            have H2 := Lib.hid h2
            clear h1 h2 h3 h4 h5 hK hD hS
            rcases HLS.out with he | ⟨he, hng⟩
            · subst he
              go_wp2_with (first
                | (go_at_call 8; refine (known_any _ (HT.out.below HBV.out)).mono ?_; rintro e_ wk ⟨rfl, b_⟩; have BK := Lib.hid (HBV.out.trans (b_.mono HBV.out.size)); have HKE := Lib.hid ((b_.block D (Array.getElem?_eq_some_iff.1 HKD.out).1).trans HKD.out); clear b_))
              (try simp only [Exit.inBlock, Exit.then])
              refine ⟨by simp, .inl ⟨_, _, rfl, run_takeDeferred HKE.out, ?_⟩⟩
              refine ⟨_, results_tmp rfl _ _ _, rfl, ?_⟩
              have b := BK.out
              exact ⟨b.os, b.tape, b.output, by simpa [World.putObj] using b.size, fun k hk => (World.putObj_heap_other (by have := HDD.out; omega)).trans (b.block k hk)⟩
            · subst he
              have hv0 := H2.out hng
              subst hv0
              go_wp2_with (first
                | (go_at_call 8; refine (known_any _ (HT.out.below HBV.out)).mono ?_; rintro e_ wk ⟨rfl, b_⟩; have BK := Lib.hid (HBV.out.trans (b_.mono HBV.out.size)); have HKE := Lib.hid ((b_.block D (Array.getElem?_eq_some_iff.1 HKD.out).1).trans HKD.out); clear b_))
              (try simp only [Exit.inBlock, Exit.then])
              refine ⟨by simp, .inl ⟨_, _, rfl, run_takeDeferred HKE.out, ?_⟩⟩
              refine ⟨_, results_tmp rfl _ _ _, rfl, ?_⟩
              have b := BK.out
              exact ⟨b.os, b.tape, b.output, by simpa [World.putObj] using b.size, fun k hk => (World.putObj_heap_other (by have := HDD.out; omega)).trans (b.block k hk)⟩
set_option maxRecDepth 8000 in
theorem walk (w : World) (hL : laidMetH Tryd.prog laidK w) (n : Int) (A0 : Option Addr) (c0 : Nat) (Cn : List Int) (hr : RdQ w A0 Cn) : Calls Tryd.prog 4 #[.int .i64 n, .slice A0 Cn.length c0] w fun e w' => e = .returned (.bool true) ∧ Below w.heap.size w w' := by
  by_cases h : (n < 1 ∨ 18 < n) ∨ 18 < Cn.length
  · exact walk_out w (tab_of hL) n A0 _ c0 h
  · obtain ⟨k, rfl⟩ := Int.eq_ofNat_of_zero_le (show 0 ≤ n by omega)
    exact walk_in1 w (tab_of hL) k A0 Cn _ rfl c0 hr (by omega) (by omega) (oKC 1 1) (slotAs (oKC 1 1) 0 (nK 1)) (fB k) (nK 1) (nK (k : Int)) (builtO 1 1) (builtN 1 1) (builtN 1 (k : Int)) rfl rfl rfl fX (builtK2 4 1) rfl
section
variable {H : Type} {enc : TypeId × Value → H} {W : World} {base : Nat} {held : Bool}
set_option maxRecDepth 8000 in
theorem open_cnt {r : Reach} {b0 : Nat} {v : Value} {d : DataW H} {p : List MemPlace} (hv : Value.okWide Tryd.prog W r b0 57 v) (h : DataW.Trod enc Tryd.prog W base (fun _ => true) held 57 v d p) : ∃ (A : Option Addr) (c : Nat) (l : List Int), v = .slice A l.length c ∧ RdQ W A l := by
  obtain ⟨A, len, cap, rfl⟩ := okWide_slice Tryd.underlying57 hv
  obtain ⟨f, hf⟩ := h
  rcases open_ints Tryd.underlying57 Tryd.underlying2 (by kernel_rfl) hf with ⟨e, _⟩ | ⟨a, len, cap, zs, e, _, hl, hm, hz, hx, hcell, hwz⟩
  · exact ⟨none, 0, [], by simpa [Value.cells] using e, fun j hj => absurd hj (by simp)⟩
  · have hz' : zs.length = cap := by simpa using hz
    have htl : (zs.take len).length = len := by rw [List.length_take]; omega
    refine ⟨some a, cap, zs.take len, by rw [htl]; simpa [Value.cells] using e, fun j hj => ?_⟩
    rw [htl] at hj
    have hs : a.spot = none := by
      have := World.cell?_spot (hcell 0 (by omega))
      simpa [Addr.add] using this
    obtain ⟨b, off, spot⟩ := a
    simp only at hs
    subst hs
    refine ⟨b, off, rfl, ?_⟩
    have := hcell j (by omega)
    rw [add_flat] at this
    rw [this, List.getElem_take, List.getD_eq_getElem?_getD, List.getElem?_eq_getElem (by omega)]
    rfl
end
set_option maxRecDepth 100000 in
theorem lifted (os : Os) (started : os.Started) (H : Type) (enc : TypeId × Value → H) :
    ReturnsInHanded {} Tryd.checked os 4 .any (fun w args => (Rows.banksFullSpec.pre enc Tryd.prog Tryd.f4 [] false w args ∧ laidMetH Tryd.prog laidK w) ∧ sizedMet enc Tryd.prog Tryd.f4 (OpenSpec.ofChange Rows.banksFullSpec) false w args) (Rows.banksFullSpec.post enc Tryd.prog Tryd.f4 false true false false) := by
  refine returnsInHanded_of_change_and (C := Tryd.checked) (X := fun w _ => laidMetH Tryd.prog laidK w) (fun _ _ _ hh h => h.of_heap hh) own started (by kernel_rfl) Tryd.func4
    (ChangeSpec.witness_shaped (enc := enc) (C := Tryd.checked) (os := os) (X := fun w _ => laidMetH Tryd.prog laidK w) false (World.doorLaid Tryd.prog 40 os) #[.int .i64 0, .slice none 0 0] 8 rfl (World.shaped_of_RefB (by kernel_rfl) (by kernel_rfl)) (by kernel_rfl) (by kernel_rfl) (by kernel_rfl) (door_met os _)) ?_
  intro W base args ds gs before hval0 hW _ _ hL _
  have hval : ∀ (j : Nat) t v, Tryd.f4.params[j]? = some t → args[j]? = some v → Value.okWide Tryd.prog W .any base t v := hval0
  have hW' := hW
  obtain ⟨p, q, hA0, hV, rfl, hfz, hnd⟩ := hW
  have hA : DataW.TrodAll enc Tryd.prog W 0 (fun _ => true) true Tryd.f4.params.toList args.toList ds p := hA0
  rw [Tryd.params4] at hA hval
  obtain ⟨v0, vs0, d0, ds0, p0, q0, hargs, rfl, rfl, h0, t0⟩ := trodAll_cons hA
  obtain ⟨v1, vs1, d1, ds1, p1, q1, rfl, rfl, rfl, h1, t1⟩ := trodAll_cons t0
  obtain ⟨rfl, rfl, rfl⟩ := trodAll_nil t1
  obtain rfl : args = #[v0, v1] := by cases args; simp_all
  obtain ⟨rfl, rfl⟩ := trodVars_none hV
  have k0 := h0
  have lt0 : ∀ x ∈ p0, x.block < W.heap.size := by obtain ⟨m, hm⟩ := k0; exact DataW.trod_lt m _ _ _ hm
  obtain ⟨a0, rfl, rfl, rfl, _⟩ := open_int Tryd.underlying3 (hval 0 3 v0 rfl rfl) h0
  have k1 := h1
  have lt1 : ∀ x ∈ p1, x.block < W.heap.size := by obtain ⟨m, hm⟩ := k1; exact DataW.trod_lt m _ _ _ hm
  obtain ⟨A1, c1, l1, rfl, hr1⟩ := open_cnt (hval 1 57 v1 rfl rfl) h1
  clear hA0 hval0
  refine (walk W hL a0 A1 c1 l1 hr1).mono fun e W' ⟨he, bel⟩ => ?_
  subst he
  exact ⟨_, rfl, _, _, _, [], _, [], hW', trodAll_mk1 (shut_bool Tryd.underlying4 _), (trodAll_cons_mk (Below.trod laidOut (by kernel_rfl) (of_decide_eq_true (by kernel_rfl)) k0 bel lt0) (trodAll_cons_mk (Below.trod laidOut (by kernel_rfl) (of_decide_eq_true (by kernel_rfl)) k1 bel lt1) trodAll_mk0)), rfl, bel.frame _, fun h => by cases h⟩
theorem over : Rows.banksFullRow.holds Tryd.pinned (OpenSpec.ofChange Rows.banksFullSpec) :=
  OpenClaim.holds_of_wide 4 Tryd.f4 rfl rfl rfl rfl rfl rfl rfl ⟨rfl, rfl, rfl, rfl, rfl⟩ rfl rfl rfl rfl rfl (by kernel_rfl) Tryd.func4 (by kernel_rfl)
    (of_decide_eq_true (by kernel_rfl)) (by unfold Func.isWrapper; first | (rw [if_pos (by decide +kernel)]; kernel_rfl) | (rw [if_neg (by decide +kernel)]; exact ⟨rfl, rfl⟩))
    (fun os started H enc _ => lifted os started H enc)
set_option maxRecDepth 8000 in
theorem proved : Rows.BanksFullCardSaid :=
  Claim7.holds_tied_plain_at .later [] [.data] true Rows.banksFullCard.stood.harness true
    over (fun _ h => by cases h) (by kernel_rfl) (fun _ h => by cases h) banksFull_row_tie rfl ⟨rfl, rfl⟩ (by kernel_rfl) rfl
    (fun f fn hf hfn => by
      obtain rfl : f = 4 := Option.some.inj ((show Tryd.prog.funcNamed "chatelaine/chatelainelaw12.BanksFull" = some 4 by kernel_rfl).symm.trans hf) |>.symm
      obtain rfl : fn = Tryd.f4 := (Option.some.inj (Tryd.func4.symm.trans hfn)).symm
      exact ⟨by kernel_rfl, fun j t ht => by
        rw [Tryd.params4] at ht
        have hm : t ∈ [3, 57] := by simpa using Array.mem_of_getElem? ht
        have hall : ([3, 57].all fun u => !Tryd.prog.wantsStandIn u) = true := by kernel_rfl
        exact (show Tryd.prog.wantsStandIn t = false by simpa using List.all_eq_true.1 hall t hm)⟩)
    (by kernel_rfl)
end Go.Proofs.YteodgefnbmiblaaDoor.banksFull

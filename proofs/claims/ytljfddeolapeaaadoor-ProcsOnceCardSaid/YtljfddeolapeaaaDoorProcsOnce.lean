/- The law ProcsOnce returns true for every input: a resume key that was used never counts again; by no invocation more processes run than ran. No condition but that the listed variables read as the program's own text lays them; the card ties them to it. -/
import Derived.Test.YtljfddeolapeaaaDoorJVr
import Derived.Test.YtljfddeolapeaaaDoorJPo
import Derived.Test.YtljfddeolapeaaaDoorJAl
import Derived.Test.YtljfddeolapeaaaDoorJRn
import Derived.Test.YtljfddeolapeaaaDoorJKn
import Derived.Test.YtljfddeolapeaaaDoorR05
import Derived.Test.YtljfddeolapeaaaDoorR18
import Derived.Test.YtljfddeolapeaaaDoorR09
import Derived.Test.YtljfddeolapeaaaDoorR11
import Derived.Test.YtljfddeolapeaaaDoorR07
namespace Go.Proofs.YtljfddeolapeaaaDoor
set_option maxRecDepth 8000 in
theorem Blk.ja4 {w : World} {g : Nat} {t : TypeId} {x : Ja} (h : Blk w g t x.cells.toArray) : w.cell? ⟨g, 0, none⟩ = some (.int .i64 x.k) ∧ w.cell? ⟨g, 1, none⟩ = some (.int .i64 x.i) ∧ w.cell? ⟨g, 8, none⟩ = some (.int .i64 x.md) ∧ w.cell? ⟨g, 9, none⟩ = some (.int .i64 x.s) := by
  have q := h.ja
  refine ⟨q.kind, ?_, ?_, ?_⟩
  · simpa using q.oid
  · simpa using q.mode
  · simpa using q.state
set_option maxRecDepth 8000 in
theorem Blk.jak {w : World} {g : Nat} {t : TypeId} {x : Ja} (h : Blk w g t x.cells.toArray) : KeyAt w g 2 x.x := by simpa using h.ja.key
set_option maxRecDepth 8000 in
theorem Blk.jam {w : World} {g : Nat} {t : TypeId} {x : Ja} (h : Blk w g t x.cells.toArray) : MgAt w g 10 x.m := by simpa using h.ja.msg
end Go.Proofs.YtljfddeolapeaaaDoor
namespace Go.Proofs.YtljfddeolapeaaaDoor.procsOnce
open Go.ChangeShapes Go.WideShapes Go.ChangeAt Go.RowKit
attribute [local go_sem] Oper.semAt_some
set_option maxRecDepth 8000 in
theorem zeroA : (Tryd.prog.info? 40).map (fun i => (i.zero, i.size)) = some (some zja.val, 30) := by kernel_rfl
theorem zA (w : World) : (zeroValue 40).run Tryd.prog w = .ok zja.val w := (zero_of_info zeroA).1 w
set_option maxRecDepth 8000 in
theorem infoBool : (Tryd.prog.info? 4).map (fun i => (i.zero, i.size, i.bytes)) = some (some (.bool false), 1, 1) := by kernel_rfl
/-- a row of bools -/
def bls (ds : List Bool) : List Value := ds.map Value.bool
set_option maxRecDepth 8000 in
theorem run_mkB (n : Nat) (hn : n ≤ 64) (w : World) : (Instr.makeSlice 44 (.int .i64 (n : Int)) (.int .i64 (n : Int))).run Tryd.prog w = .ok (.slice (some ⟨w.heap.size, 0, none⟩) n n) (w.alloc (.cells (bls (List.replicate n false)).toArray 4)) := by
  obtain ⟨i, hi, hz, hs, hb⟩ := info_parts infoBool
  have hr := run_make (P := Tryd.prog) w 44 4 i (.bool false) Tryd.underlying44 hi hz .i64 .i64 n n (by omega) (Int.le_refl _) (by rw [hb]; omega) (by omega)
  rw [hs, Int.toNat_natCast] at hr
  rw [hr]
  refine congrArg (fun cs => Result.ok _ (w.alloc (.cells cs 4))) ?_
  apply Array.ext'
  apply List.ext_getElem?
  intro j
  simp only [bls, List.map_replicate, madeCells]
  simp only [Value.cells, List.getElem?_replicate]
  by_cases hj : j < n
  · simp [hj, Nat.mod_one]
  · simp [hj]
theorem bls_get {w : World} {g : Nat} {t : TypeId} {ds : List Bool} (h : Blk w g t (bls ds).toArray) {j : Nat} {d : Bool} (hd : ds[j]? = some d) : w.cell? ⟨g, j, none⟩ = some (.bool d) := (h.cell j).trans (by simp [bls, hd])
set_option maxRecDepth 8000 in
theorem bls_set {w : World} {g : Nat} {t : TypeId} {ds : List Bool} (h : Blk w g t (bls ds).toArray) (j : Nat) (d : Bool) : Blk (w.setCell ⟨g, j, none⟩ (.bool d)) g t (bls (ds.set j d)).toArray := by
  have := h.set_ j (.bool d)
  have e : (bls ds).toArray.setIfInBounds j (.bool d) = (bls (ds.set j d)).toArray := by simp [bls, List.map_set]
  rwa [e] at this
set_option maxRecDepth 8000 in
theorem wrapS {n : Int} (h : -1000 ≤ n ∧ n ≤ 1000) : IntKind.i64.wrap n = n := by
  simp only [IntKind.wrap, IntKind.bits, IntKind.signed]
  simp
  omega
section
variable {w : World} {base p : Nat} {A : Option Addr} {cap : Nat} {ps : List Nat} {os : List Oj}
set_option maxRecDepth 8000 in
theorem named_b (h : StAt w base p A cap ps os) (hn : 0 < os.length) (hT : Tab w) (x : Ky) {o : Oj} {b : Bool} (ho : (named os x).getD oz = o) (hb : (named os x).isSome = b) : Calls Tryd.prog 18 #[pv p, x.val] w fun e w' => e = .returned (.tuple #[o.val, .bool b]) ∧ Below w.heap.size w w' := by
  subst ho hb
  exact named_at h hn hT x
set_option maxRecDepth 8000 in
theorem inv_v (h : StAt w base p A cap ps os) (ho : okAll os.length os) (hn : 0 < os.length) (hN : os.length ≤ 64) (hT : TabB base w) (i : Int) (x : Ky) (md : Int) (m : Mg) {os' : List Oj} {v : Int} (hv : invA os i x md m = (os', v)) :
    Calls Tryd.prog 14 #[pv p, .int .i64 i, x.val, .int .i64 md, m.val] w fun e w' => e = .returned (.int .i64 v) ∧ StAt w' base p A cap ps os' ∧ Fr (fun k => k ∈ ps) w w' := by
  have := inv_all h ho hn hN hT i x md m
  rwa [hv] at this
theorem run_v (h : StAt w base p A cap ps os) (hN : 0 < os.length) (hN' : os.length ≤ 1000) {r : Nat} (hr : (runA os).length = r) : Calls Tryd.prog 16 #[pv p] w fun e w' => ∃ B c, e = .returned (.slice B r c) ∧ Below w.heap.size w w' := (running_at h hN hN').mono fun e w' q => by
  obtain ⟨v, rfl, ho, hb⟩ := q
  obtain ⟨B, c, rfl, _⟩ := rdi_of ho
  exact ⟨B, c, by rw [hr], hb⟩
theorem prep_v (h : StAt w base p A cap ps os) (hn : 0 < os.length) (hT : Tab w) (x : Ky) {y : Ky} (hy : prepd os x = y) : Calls Tryd.prog 17 #[pv p, x.val] w fun e w' => e = .returned y.val ∧ Below w.heap.size w w' := hy ▸ prep_at h hn hT x
end
set_option maxRecDepth 8000 in
theorem y_ne0 {ops : Array Oper} {o : Oper} {a : Act} {S : World → Prop} {p q : Operand} (hw : Region.wanted o (yielded ops a.tmps) = true) (ho : o.op = .binOp .neq 33 p q 33) (x : Ky) (hx : a.eval p = x.val) (hy : a.eval q = x.val) : YieldsIf Tryd.prog ops S o (.bool false) a := by
  have := y_kyne (S := S) hw ho x x hx hy
  rwa [decide_eq_true rfl] at this
/-- how the law stands ahead of a round -/
structure Onc (w W : World) (q : Nat) (A' : Option Addr) (cap' : Nat) (ps : List Nat) (n gd : Nat) (kk : List Ky) (os : List Oj) (ds : List Bool) : Prop where
  bel : Below w.heap.size w W
  st : StAt W q q A' cap' ps os
  len : os.length = n
  ok : okAll n os
  row : Blk W gd 4 (bls ds).toArray
  dl : ds.length = kk.length
  dd : ∀ (t : Nat) (x : Ky), kk[t]? = some x → ds[t]? = some true → Dd os x
theorem Onc.below {w W W' : World} {q : Nat} {A' : Option Addr} {cap' : Nat} {ps : List Nat} {n gd : Nat} {kk : List Ky} {os : List Oj} {ds : List Bool} (h : Onc w W q A' cap' ps n gd kk os ds) (hb : Below W.heap.size W W') : Onc w W' q A' cap' ps n gd kk os ds := ⟨h.bel.trans (hb.mono h.bel.size), h.st.below hb, h.len, h.ok, h.row.keep hb, h.dl, h.dd⟩
theorem Onc.step {w W W' : World} {q : Nat} {A' : Option Addr} {cap' : Nat} {ps : List Nat} {n gd : Nat} {kk : List Ky} {os os' : List Oj} {ds : List Bool} (h : Onc w W q A' cap' ps n gd kk os ds) (hq : w.heap.size ≤ q) (hs : StAt W' q q A' cap' ps os') (hf : Fr (fun k => k ∈ ps) W W') (hl : os'.length = n) (ho : okAll n os') (hst : Stay os os') : Onc w W' q A' cap' ps n gd kk os' ds :=
  ⟨h.bel.trans (hf.to_below (fun k hk => by have := (h.st.pps k hk).1; omega) h.bel.size), hs, hl, ho, h.st.blkF hf h.row (by decide), h.dl, fun t x hx hd => (h.dd t x hx hd).stay hst⟩
set_option maxRecDepth 8000 in
theorem Onc.put {w W : World} {q : Nat} {A' : Option Addr} {cap' : Nat} {ps : List Nat} {n gd : Nat} {kk : List Ky} {os : List Oj} {ds : List Bool} (h : Onc w W q A' cap' ps n gd kk os ds) (hg : w.heap.size ≤ gd) (hne : gd ≠ q) (j : Nat) (d : Bool) (hd : ∀ x, kk[j]? = some x → d = true → Dd os x) : Onc w (W.setCell ⟨gd, j, none⟩ (.bool d)) q A' cap' ps n gd kk os (ds.set j d) :=
  ⟨h.bel.setCell hg _, h.st.keep fun k hk => Below.heap_setCell _ _ _ _ (fun e => h.st.blk_ne h.row ⟨by decide, by decide⟩ hne (by rw [show gd = k from e.symm]; exact hk)), h.len, h.ok, bls_set h.row j d, by rw [List.length_set]; exact h.dl, fun t x hx ht => by
    by_cases e : j = t
    · subst e
      have hlt : j < ds.length := by
        rw [List.getElem?_eq_some_iff] at ht
        have := ht.1
        rwa [List.length_set] at this
      rw [List.getElem?_set_self hlt] at ht
      injection ht with ht
      exact hd x hx ht
    · rw [List.getElem?_set_ne e] at ht
      exact h.dd t x hx ht⟩
/-- another store stays, where one's objects change that were there ahead of it -/
theorem st_fr {W W' : World} {q2 : Nat} {A2 : Option Addr} {cap2 : Nat} {ps2 ps : List Nat} {os : List Oj} (h : StAt W q2 q2 A2 cap2 ps2 os) (hf : Fr (fun k => k ∈ ps) W W') (hp : ∀ k ∈ ps, k < q2) : StAt W' q2 q2 A2 cap2 ps2 os := h.keep fun k hk => hf.block k (h.lt k hk).2 (fun hm => by have h1 := (h.lt k hk).1; have h2 := hp k hm; omega)
theorem st_put {W : World} {q2 : Nat} {A2 : Option Addr} {cap2 : Nat} {ps2 : List Nat} {os : List Oj} (h : StAt W q2 q2 A2 cap2 ps2 os) {gd : Nat} (hg : gd < q2) (j : Nat) (v : Value) : StAt (W.setCell ⟨gd, j, none⟩ v) q2 q2 A2 cap2 ps2 os := h.keep fun k hk => Below.heap_setCell _ _ _ _ (fun e => by have h1 := (h.lt k hk).1; have h2 : k = gd := e; omega)
set_option maxRecDepth 8000 in
set_option maxHeartbeats 1000000 in
theorem walk_no (w : World) (hT : Tab w) (A : Option Addr) (l : List Oj) (cap : Nat) (A2 : Option Addr) (aa : List Ja) (cap2 : Nat) (A3 : Option Addr) (kk : List Ky) (cap3 : Nat) (hr : RdO w A l) (h : ¬ madeP l) : Calls Tryd.prog 5 #[.slice A l.length cap, .slice A2 aa.length cap2, .slice A3 kk.length cap3] w fun e w' => e = .returned (.bool true) ∧ Below w.heap.size w w' := by
  have HT := Lib.hid hT
  have HR := Lib.hid hr
  have H := Lib.hid h
  have HB := Lib.hid (Below.refl w.heap.size w)
  clear hT hr h
  go_enter Tryd.func5, Tryd.ntmps5
  go_wp2_with (first
    | (go_at_call 7; refine (made_no HR.out H.out).mono ?_; rintro e w1 ⟨rfl, b1⟩; have HB1 := Lib.hid (HB.out.trans b1); clear b1)
    | (go_at_call 9; refine (known_any _ (HT.out.below HB1.out)).mono ?_; rintro e v9 ⟨rfl, b_⟩; have B9 := Lib.hid ((HB1.out).trans (b_.mono (HB1.out).size)); clear b_))
  go_ret
  exact ⟨rfl, B9.out⟩
set_option maxRecDepth 8000 in
set_option maxHeartbeats 1000000 in
theorem walk_big (w : World) (hT : Tab w) (A : Option Addr) (l : List Oj) (cap : Nat) (A2 : Option Addr) (aa : List Ja) (cap2 : Nat) (A3 : Option Addr) (kk : List Ky) (cap3 : Nat) (hr : RdO w A l) (hra : RdJ w A2 aa) (h : madeP l) (hl : ¬ fewJ aa) : Calls Tryd.prog 5 #[.slice A l.length cap, .slice A2 aa.length cap2, .slice A3 kk.length cap3] w fun e w' => e = .returned (.bool true) ∧ Below w.heap.size w w' := by
  have HT := Lib.hid hT
  have HR := Lib.hid hr
  have HA := Lib.hid hra
  have H := Lib.hid h
  have HFW := Lib.hid hl
  have HB := Lib.hid (Below.refl w.heap.size w)
  clear hT hr hra h hl
  go_enter Tryd.func5, Tryd.ntmps5
  go_wp2_with (first
    | (go_at_call 7; refine (made_yes HT.out HR.out H.out).mono ?_; rintro e w1 ⟨q, rfl, hq, hs, b1⟩; have HB1 := Lib.hid (HB.out.trans b1); clear b1)
    | (go_at_call 8; refine (vast_yes (HA.out.below HB1.out) HFW.out).mono ?_; rintro e w2 ⟨rfl, b2⟩; have HB2 := Lib.hid (HB1.out.trans (b2.mono HB1.out.size)); clear b2)
    | (go_at_call 9; refine (known_any _ (HT.out.below HB2.out)).mono ?_; rintro e v9 ⟨rfl, b_⟩; have B9 := Lib.hid ((HB2.out).trans (b_.mono (HB2.out).size)); clear b_))
  go_ret
  exact ⟨rfl, B9.out⟩
set_option maxRecDepth 8000 in
set_option maxHeartbeats 1000000 in
theorem walk_many (w : World) (hT : Tab w) (A : Option Addr) (l : List Oj) (cap : Nat) (A2 : Option Addr) (aa : List Ja) (cap2 : Nat) (A3 : Option Addr) (kk : List Ky) (cap3 : Nat) (hr : RdO w A l) (hra : RdJ w A2 aa) (h : madeP l) (hl : fewJ aa) (hk : 20 < kk.length) : Calls Tryd.prog 5 #[.slice A l.length cap, .slice A2 aa.length cap2, .slice A3 kk.length cap3] w fun e w' => e = .returned (.bool true) ∧ Below w.heap.size w w' := by
  have HT := Lib.hid hT
  have HR := Lib.hid hr
  have HA := Lib.hid hra
  have H := Lib.hid h
  have HFW := Lib.hid hl
  have HB := Lib.hid (Below.refl w.heap.size w)
  have d0 : decide ((20 : Int) < (kk.length : Int)) = true := decide_eq_true (by omega)
  have d1 : decide (20 < kk.length) = true := decide_eq_true hk
  clear hT hr hra h hl hk
  go_enter Tryd.func5, Tryd.ntmps5
  go_wp2_with (first
    | (go_at_call 7; refine (made_yes HT.out HR.out H.out).mono ?_; rintro e w1 ⟨q, rfl, hq, hs, b1⟩; have HB1 := Lib.hid (HB.out.trans b1); clear b1)
    | (go_at_call 8; refine (vast_no (HA.out.below HB1.out) HFW.out).mono ?_; rintro e w2 ⟨rfl, b2⟩; have HB2 := Lib.hid (HB1.out.trans (b2.mono HB1.out.size)); clear b2)
    | (go_at_call 9; refine (known_any _ (HT.out.below HB2.out)).mono ?_; rintro e v9 ⟨rfl, b_⟩; have B9 := Lib.hid ((HB2.out).trans (b_.mono (HB2.out).size)); clear b_))
  go_ret
  exact ⟨rfl, B9.out⟩
set_option maxRecDepth 100000 in
set_option maxHeartbeats 4000000 in
theorem walk_ok (w : World) (hT : Tab w) (A : Option Addr) (l : List Oj) (cap : Nat) (A2 : Option Addr) (aa : List Ja) (cap2 : Nat) (A3 : Option Addr) (kk : List Ky) (cap3 : Nat) (hr : RdO w A l) (hra : RdJ w A2 aa) (hrk : RdK w A3 kk) (h : madeP l) (hl : fewJ aa) (hkl : kk.length ≤ 20) : Calls Tryd.prog 5 #[.slice A l.length cap, .slice A2 aa.length cap2, .slice A3 kk.length cap3] w fun e w' => e = .returned (.bool true) ∧ Below w.heap.size w w' := by
  have HT := Lib.hid hT
  have HR := Lib.hid hr
  have HA := Lib.hid hra
  have HK := Lib.hid hrk
  have H := Lib.hid h
  have HFW := Lib.hid hl
  have HB := Lib.hid (Below.refl w.heap.size w)
  have hmk := run_mkB
  have hz := zA
  have hzl := zja.len
  have hz34 := z34
  have hol := oz_len
  obtain ⟨n, hn⟩ : ∃ n, l.length = n := ⟨_, rfl⟩
  have HN := Lib.hid (show 0 < n by have := h.2.1; omega)
  have HN' := Lib.hid (show n ≤ 64 by have := h.1; omega)
  have HN1 := Lib.hid (show n ≤ 1000 by have := h.1; omega)
  have hl30 : aa.length ≤ 30 := hl.1
  have HMD := Lib.hid (hn ▸ made_yes (cap := cap) hT hr h)
  have HOK := Lib.hid (hn ▸ h.2.2.2 : okAll n l)
  have d0 : decide ((20 : Int) < (kk.length : Int)) = false := decide_eq_false (by omega)
  have d1 : decide (20 < kk.length) = false := decide_eq_false (by omega)
  have hmk0 := run_mkB kk.length (by omega)
  rw [hn]
  have HLN := Lib.hid hn
  clear hT hr hra hrk h hn
  go_enter Tryd.func5, Tryd.ntmps5
  go_wp2_with (first
    | (go_at_call 7; refine HMD.out.mono ?_; rintro e w1 ⟨q, rfl, hq, ⟨A', cap', ps, hs⟩, b1⟩; have HP0 := Lib.hid (HB.out.trans b1); have HS0 := Lib.hid hs; have HQ := Lib.hid hq; clear b1 hq hs)
    | (go_at_call 8; refine (vast_no (HA.out.below HP0.out) HFW.out).mono ?_; rintro e w2 ⟨rfl, b2⟩; have HP1 := Lib.hid (HP0.out.trans (b2.mono HP0.out.size)); have HS1 := Lib.hid (HS0.out.below b2); clear b2))
  clear hl hmk hmk0
  have HGN := Lib.hid (show w2.heap.size ≠ q by have := (HS1.out.lt q (.inl rfl)).2; omega)
  have HGW := Lib.hid HP1.out.size
  have HI : Hid (Onc w (w2.alloc (.cells (bls (List.replicate kk.length false)).toArray 4)) q A' cap' ps n w2.heap.size kk l (List.replicate kk.length false)) := Lib.hid ⟨HP1.out.alloc HP1.out.size _, HS1.out.alloc _, HLN.out, HOK.out, Blk.new w2 4 _, List.length_replicate, fun t x _ ht => by
    rw [List.getElem?_replicate] at ht
    split at ht
    · injection ht with ht; cases ht
    · cases ht⟩
  obtain ⟨gd, hgd⟩ : ∃ gd, w2.heap.size = gd := ⟨_, rfl⟩
  rw [hgd] at HI HGN HGW ⊢
  clear hgd
  generalize w2.alloc _ = w3 at HI ⊢
  go_loopw [9, 10, 11, 12, 13, 14, 15, 16, 17, 18] (fun q9 _ _ _ _ _ _ _ _ _ wr => ∃ k : Nat, k ≤ aa.length ∧ q9 = .int .i64 k ∧ ∃ os ds, Onc w wr q A' cap' ps n gd kk os ds) (fun q9 _ _ _ _ _ _ _ _ _ _ => aa.length + 1 - (intOf q9).toNat)
  case atStart => exact ⟨0, by omega, rfl, _, _, HI.out⟩
  case round =>
    obtain ⟨k, hk, rfl, os, ds, hply⟩ := hrel
    clear HP0 HP1 HI
    have HP := Lib.hid hply
    clear hply
    by_cases hlt : k < aa.length
    · obtain ⟨b, off, hA2, hst⟩ := HA.out k hlt
      obtain ⟨x, hx⟩ : ∃ x, x = aa[k] := ⟨_, rfl⟩
      rw [← hx] at hst
      have HX := Lib.hid (hst.below HP.out.bel)
      subst hA2
      have e0 : decide ((k : Int) < (aa.length : Int)) = true := decide_eq_true (by omega)
      have e1 : decide (k < aa.length) = true := decide_eq_true hlt
      have e2 : (0 : Int) ≤ (k : Int) := by omega
      have e3 : (k : Int) < (aa.length : Int) := by omega
      have hxl := x.len
      clear hst hx
      by_cases hxk : x.k = 1
      · have g0 : (x.k != 1) = false := by simpa using hxk
        have HOL := Lib.hid HP.out.len
        obtain ⟨⟨os', v⟩, hv⟩ : ∃ r, invA os x.i x.x x.md x.m = r := ⟨_, rfl⟩
        have HV := Lib.hid hv
        have hoo : okAll os.length os := HP.out.len.symm ▸ HP.out.ok
        have HLL := Lib.hid (show os'.length = n by have := invA_len os x.i x.x x.md x.m; rw [hv] at this; exact this.trans HP.out.len)
        have HOO := Lib.hid (show okAll n os' by have := invA_ok hoo (by have := HP.out.len; have := HN'.out; omega) x.i x.x x.md x.m; rw [hv, HP.out.len] at this; exact this)
        by_cases hv0 : v = 0
        · obtain ⟨a9, b9, s9, dI⟩ := invA_ok0 (os := os) (i := x.i) (x := x.x) (md := x.md) (m := x.m) (by rw [hv]; exact hv0)
          have HSY := Lib.hid (show Stay os os' by have := dI.stay; rw [hv] at this; exact this)
          have g1 : (v != 0) = false := by simpa using hv0
          obtain ⟨r0, hr0⟩ : ∃ r0, (runA os).length = r0 := ⟨_, rfl⟩
          obtain ⟨r1, hr1⟩ : ∃ r1, (runA os').length = r1 := ⟨_, rfl⟩
          have HR0 := Lib.hid hr0
          have HR1 := Lib.hid hr1
          have hm1 : r1 ≤ r0 + 1 := by have := dI.more; rw [hv, hr0, hr1] at this; exact this
          have hm2 : x.md ≠ 2 → r1 ≤ r0 := fun q => by have := dI.same q; rw [hv, hr0, hr1] at this; exact this
          have hr9 : r0 ≤ 1000 ∧ r1 ≤ 1000 := by
            have h1 := runA_le os
            have h2 := runA_le os'
            have h3 := HP.out.len
            have h4 := HLL.out
            have h5 := HN1.out
            omega
          have hwr : IntKind.i64.wrap ((r1 : Int) - (r0 : Int)) = (r1 : Int) - (r0 : Int) := wrapS (by omega)
          have g2 : decide ((1 : Int) < (r1 : Int) - (r0 : Int)) = false := decide_eq_false (by omega)
          have HGO := Lib.hid (fun (hk : x.x.k = 7) => (show prepd os' x.x = zk by have := dI.gone hk; rw [hv] at this; exact this))
          have M0 := Lib.hid True.intro
          clear hv hv0 hr0 hr1 hoo dI
          by_cases hgt : r0 < r1
          · have g3 : decide (r0 < r1) = true := decide_eq_true hgt
            have g3b : decide ((0 : Int) < (r1 : Int) - (r0 : Int)) = true := decide_eq_true (by omega)
            have g5 : (x.md != 2) = false := by
              have : x.md = 2 := Classical.byContradiction fun q => by have := hm2 q; omega
              simpa using this
            clear hgt
            by_cases h7 : x.x.k = 7
            · have g4 : (x.x.k == 7) = true := by simpa using h7
              replace HGO := Lib.hid (HGO.out h7)
              go_wp2_with (first
                | ((with_reducible show wpList _ _ _ (Oper.mk (some 45) (.load _ _) _ _ _ _ :: _) _ _); refine wpList_yields (S := fun w' => JaAt w' b (off + k * 30) x) (y_ja (by rfl) (.tmp 44) (by rfl) b (off + k * 30) (by rfl) x (fun _ h => h)) HX.out ?_)
                | ((with_reducible show wpList _ _ _ (Oper.mk none (.store _ (.tmp 10) (.tmp 45)) _ _ _ _ :: _) _ _); refine wpList_store_new (l := x.cells) (l0 := zja.cells) (ty := 40) rfl (.tmp 10) (.tmp 45) (by rfl) wr.heap.size (by rfl) (by rfl) (by rfl) (by rw [Ja.len]; exact sizeJa) (by rw [Ja.len, Ja.len]) (Ja.one _) ?_; have HP1 := Lib.hid (HP.out.below ((Below.refl _ _).alloc (Nat.le_refl _) (.cells x.cells.toArray 40))); have HA1 := Lib.hid (Blk.new wr 40 x.cells.toArray); obtain ⟨ga, hga⟩ : ∃ ga, wr.heap.size = ga := ⟨_, rfl⟩; rw [hga] at HA1 ⊢; clear hga; generalize wr.alloc (.cells x.cells.toArray 40) = wa at HP1 HA1 ⊢; obtain ⟨c0, c1, c8, c9⟩ := HA1.out.ja4)
                | (go_at_call 13; refine (copy_at HP1.out.st (by have := HP1.out.len; have := HN.out; omega) (by have := HP1.out.len; have := HN1.out; omega)).mono ?_; rintro e w1 ⟨rfl, ⟨A9, cap9, ps9, hs9⟩, b1⟩; have HP2 := Lib.hid (HP1.out.below b1); have HS9 := Lib.hid hs9; have HA2 := Lib.hid (HA1.out.keep b1); have HGQ := Lib.hid (show ∀ k ∈ ps, k < wa.heap.size from fun k hk => (HP1.out.st.lt k (.inr (.inr hk))).2); have HGD := Lib.hid HP1.out.row.lt; obtain ⟨q9, hq9⟩ : ∃ q9, wa.heap.size = q9 := ⟨_, rfl⟩; rw [hq9] at HS9 HGQ HGD ⊢; clear b1 hs9 hq9 c0 c1 c8 c9; obtain ⟨c0, c1, c8, c9⟩ := HA2.out.ja4)
                | ((with_reducible show wpList _ _ _ (Oper.mk (some 55) (.load _ _) _ _ _ _ :: _) _ _); refine wpList_yields (S := fun w' => KeyAt w' ga 2 x.x) (y_kyJ (by rfl) (.tmp 54) (by rfl) ga 2 (by rfl) x.x (fun _ h => h)) HA2.out.jak ?_)
                | ((with_reducible show wpList _ _ _ (Oper.mk (some 59) (.load _ _) _ _ _ _ :: _) _ _); refine wpList_yields (S := fun w' => MgAt w' ga 10 x.m) (y_mg (by rfl) (.tmp 58) (by rfl) ga 10 (by rfl) x.m (fun _ h => h)) HA2.out.jam ?_)
                | (go_at_call 14; refine (inv_v HP2.out.st (HP2.out.len.symm ▸ HP2.out.ok) (by have := HP2.out.len; have := HN.out; omega) (by have := HP2.out.len; have := HN'.out; omega) (TabB.of HT.out HP2.out.bel HQ.out) x.i x.x x.md x.m HV.out).mono ?_; rintro e w2 ⟨rfl, hs2, hf2⟩; have HP3 := Lib.hid (HP2.out.step HQ.out hs2 hf2 HLL.out HOO.out HSY.out); have HS3 := Lib.hid (st_fr HS9.out hf2 HGQ.out); have HA3 := Lib.hid (HP2.out.st.blkF hf2 HA2.out (by decide)); clear hs2 hf2 c0 c1 c8 c9; obtain ⟨c0, c1, c8, c9⟩ := HA3.out.ja4)
                | (go_at_call 16; clear M0; refine (run_v HP3.out.st (by have := HP3.out.len; have := HN.out; omega) (by have := HP3.out.len; have := HN1.out; omega) HR1.out).mono ?_; rintro e w3 ⟨B3, e3, rfl, b3⟩; have HP4 := Lib.hid (HP3.out.below b3); have HS4 := Lib.hid (HS3.out.below b3); have HA4 := Lib.hid (HA3.out.keep b3); clear b3 c0 c1 c8 c9; obtain ⟨c0, c1, c8, c9⟩ := HA4.out.ja4)
                | (go_at_call 16; refine (run_v HS4.out (by have := HP.out.len; have := HN.out; omega) (by have := HP.out.len; have := HN1.out; omega) HR0.out).mono ?_; rintro e w4 ⟨B4, e4, rfl, b4⟩; have HP5 := Lib.hid (HP4.out.below b4); have HS5 := Lib.hid (HS4.out.below b4); have HA5 := Lib.hid (HA4.out.keep b4); clear b4 c0 c1 c8 c9; obtain ⟨c0, c1, c8, c9⟩ := HA5.out.ja4; have ck := HA5.out.jak.1)
                | ((with_reducible show wpList _ _ _ (Oper.mk (some 93) (.load _ _) _ _ _ _ :: _) _ _); refine wpList_yields (S := fun w' => KeyAt w' ga 2 x.x) (y_kyJ (by rfl) (.tmp 92) (by rfl) ga 2 (by rfl) x.x (fun _ h => h)) HA5.out.jak ?_)
                | (go_at_call 17; refine (prep_v HP5.out.st (by have := HP5.out.len; have := HN.out; omega) (HT.out.below HP5.out.bel) x.x HGO.out).mono ?_; rintro e w5 ⟨rfl, b5⟩; have HP6 := Lib.hid (HP5.out.below b5); have HS6 := Lib.hid (HS5.out.below b5); clear b5 c0 c1 c8 c9 ck)
                | ((with_reducible show wpList _ _ _ (Oper.mk (some 95) (.build _ _) _ _ _ _ :: _) _ _); refine wpList_yields (S := fun _ => True) (y_build (by rfl) (by rfl) built30) trivial ?_)
                | ((with_reducible show wpList _ _ _ (Oper.mk (some 96) (.binOp _ _ _ _ _) _ _ _ _ :: _) _ _); refine wpList_yields (S := fun _ => True) (y_ne0 (by rfl) (by rfl) zk (by rfl) (by rfl)) trivial ?_))
              go_loopw [14, 15, 16, 17, 18] (fun q14 _ _ _ _ wk => ∃ j : Nat, j ≤ kk.length ∧ q14 = .int .i64 j ∧ ∃ ds, Onc w wk q A' cap' ps n gd kk os' ds ∧ StAt wk q9 q9 A9 cap9 ps9 os) (fun q14 _ _ _ _ _ => kk.length + 1 - (intOf q14).toNat)
              case atStart => exact ⟨0, by omega, rfl, ds, HP6.out, HS6.out⟩
              case round =>
                obtain ⟨j, hj, rfl, ds, hz1, hz2⟩ := hrel
                have HZ := Lib.hid (And.intro hz1 hz2)
                clear hz1 hz2
                by_cases hjl : j < kk.length
                · have f0 : decide ((j : Int) < (kk.length : Int)) = true := decide_eq_true (by omega)
                  have f1 : decide (j < kk.length) = true := decide_eq_true hjl
                  have f2 : (0 : Int) ≤ (j : Int) := by omega
                  have f3 : (j : Int) < (kk.length : Int) := by omega
                  obtain ⟨kb, ko, hA3, hky⟩ := HK.out j hjl
                  obtain ⟨y, hy⟩ : ∃ y, kk[j] = y := ⟨_, rfl⟩
                  rw [hy] at hky
                  have HY := Lib.hid (hky.keep HZ.out.1.bel)
                  have HYK := Lib.hid (show kk[j]? = some y by rw [List.getElem?_eq_getElem hjl, hy])
                  subst hA3
                  have HJD := Lib.hid (show j < ds.length by rw [HZ.out.1.dl]; exact hjl)
                  obtain ⟨d, hd⟩ : ∃ d, ds[j]? = some d := ⟨_, List.getElem?_eq_getElem HJD.out⟩
                  obtain ⟨o1, ho1⟩ : ∃ o1, (named os y).getD oz = o1 := ⟨_, rfl⟩
                  obtain ⟨o2, ho2⟩ : ∃ o2, (named os' y).getD oz = o2 := ⟨_, rfl⟩
                  obtain ⟨b1, hb1⟩ : ∃ b1, (named os y).isSome = b1 := ⟨_, rfl⟩
                  obtain ⟨b2, hb2⟩ : ∃ b2, (named os' y).isSome = b2 := ⟨_, rfl⟩
                  have HB1 := Lib.hid hb1
                  have HB2 := Lib.hid hb2
                  have HO1 := Lib.hid ho1
                  have HO2 := Lib.hid ho2
                  have HD := Lib.hid hd
                  have M1 := Lib.hid True.intro
                  clear hky hy hb1 hb2 ho1 ho2 hd
                  cases d with
                  | true =>
                    have hD : Dd os' y := HZ.out.1.dd j y HYK.out HD.out
                    have e2 : b2 = false := by rw [← HB2.out, hD.none]; rfl
                    subst e2
                    have HDD := Lib.hid (show ∀ z, kk[j]? = some z → Dd os' z from fun z hz => by have e := HYK.out; rw [hz] at e; injection e with e; exact e ▸ hD)
                    go_wp2_with (first
                      | ((with_reducible show wpList _ _ _ (Oper.mk (some 110) (.load _ _) _ _ _ _ :: _) _ _); refine wpList_yields (S := fun w' => KeyAt w' kb (ko + j * 6) y) (y_kyJ (by rfl) (.tmp 109) (by rfl) kb (ko + j * 6) (by rfl) y (fun _ h => h)) HY.out ?_)
                      | (go_at_call 18; clear M1; refine (named_b HZ.out.2 (by have := HOL.out; have := HN.out; omega) (HT.out.below HZ.out.1.bel) y HO1.out HB1.out).mono ?_; rintro e u1 ⟨rfl, b1⟩; have HZ1 := Lib.hid (⟨HZ.out.1.below b1, HZ.out.2.below b1⟩ : Onc w u1 q A' cap' ps n gd kk os' ds ∧ StAt u1 q9 q9 A9 cap9 ps9 os); have HY1 := Lib.hid (HY.out.keep b1); clear b1)
                      | ((with_reducible show wpList _ _ _ (Oper.mk none (.store _ (.tmp 15) (.tmp 112)) _ _ _ _ :: _) _ _); refine wpList_store_last rfl (.tmp 15) (.tmp 112) rfl u1.heap.size rfl (by rfl) o1 oz (by rfl) ?_; have b_ : Below u1.heap.size u1 (u1.alloc (.cells o1.cells.toArray 56)) := (Below.refl _ _).alloc (Nat.le_refl _) _; have HZ2 := Lib.hid (⟨HZ1.out.1.below b_, HZ1.out.2.below b_⟩ : Onc w _ q A' cap' ps n gd kk os' ds ∧ StAt _ q9 q9 A9 cap9 ps9 os); have HY2 := Lib.hid (HY1.out.keep b_); clear b_; generalize u1.alloc (.cells o1.cells.toArray 56) = u2 at HZ2 HY2 ⊢)
                      | ((with_reducible show wpList _ _ _ (Oper.mk (some 119) (.load _ _) _ _ _ _ :: _) _ _); refine wpList_yields (S := fun w' => KeyAt w' kb (ko + j * 6) y) (y_kyJ (by rfl) (.tmp 118) (by rfl) kb (ko + j * 6) (by rfl) y (fun _ h => h)) HY2.out ?_)
                      | (go_at_call 18; refine (named_b HZ2.out.1.st (by have := HZ2.out.1.len; have := HN.out; omega) (HT.out.below HZ2.out.1.bel) y HO2.out HB2.out).mono ?_; rintro e u3 ⟨rfl, b3⟩; have HZ3 := Lib.hid (⟨HZ2.out.1.below b3, HZ2.out.2.below b3⟩ : Onc w u3 q A' cap' ps n gd kk os' ds ∧ StAt u3 q9 q9 A9 cap9 ps9 os); clear b3)
                      | ((with_reducible show wpList _ _ _ (Oper.mk none (.store _ (.tmp 17) (.tmp 121)) _ _ _ _ :: _) _ _); refine wpList_store_last rfl (.tmp 17) (.tmp 121) rfl u3.heap.size rfl (by rfl) o2 oz (by rfl) ?_; have b_ : Below u3.heap.size u3 (u3.alloc (.cells o2.cells.toArray 56)) := (Below.refl _ _).alloc (Nat.le_refl _) _; have HZ4 := Lib.hid (⟨HZ3.out.1.below b_, HZ3.out.2.below b_⟩ : Onc w _ q A' cap' ps n gd kk os' ds ∧ StAt _ q9 q9 A9 cap9 ps9 os); clear b_; generalize u3.alloc (.cells o2.cells.toArray 56) = u4 at HZ4 ⊢; have cd : u4.cell? ⟨gd, j, none⟩ = some (.bool true) := bls_get HZ4.out.1.row HD.out; have fd : u4.frozen? ⟨gd, j, none⟩ = false := HZ4.out.1.row.frozen j; have cs : (u4.setCell ⟨gd, j, none⟩ (.bool true)).cell? ⟨gd, j, none⟩ = some (.bool true) := bls_get (bls_set HZ4.out.1.row j true) (List.getElem?_set_self HJD.out); have HZ5 := Lib.hid (⟨HZ4.out.1.put HGW.out HGN.out j true (fun z hz _ => HDD.out z hz), st_put HZ4.out.2 HGD.out j (.bool true)⟩ : Onc w (u4.setCell ⟨gd, j, none⟩ (.bool true)) q A' cap' ps n gd kk os' (ds.set j true) ∧ StAt (u4.setCell ⟨gd, j, none⟩ (.bool true)) q9 q9 A9 cap9 ps9 os)))
                    go_roundw
                    case rel => exact ⟨j + 1, by omega, by go_num, ds.set j true, HZ5.out⟩
                    case measure => simp [intOf]; omega
                  | false =>
                    cases b1 with
                    | false =>
                      go_wp2_with (first
                        | ((with_reducible show wpList _ _ _ (Oper.mk (some 110) (.load _ _) _ _ _ _ :: _) _ _); refine wpList_yields (S := fun w' => KeyAt w' kb (ko + j * 6) y) (y_kyJ (by rfl) (.tmp 109) (by rfl) kb (ko + j * 6) (by rfl) y (fun _ h => h)) HY.out ?_)
                        | (go_at_call 18; clear M1; refine (named_b HZ.out.2 (by have := HOL.out; have := HN.out; omega) (HT.out.below HZ.out.1.bel) y HO1.out HB1.out).mono ?_; rintro e u1 ⟨rfl, b1⟩; have HZ1 := Lib.hid (⟨HZ.out.1.below b1, HZ.out.2.below b1⟩ : Onc w u1 q A' cap' ps n gd kk os' ds ∧ StAt u1 q9 q9 A9 cap9 ps9 os); have HY1 := Lib.hid (HY.out.keep b1); clear b1)
                        | ((with_reducible show wpList _ _ _ (Oper.mk none (.store _ (.tmp 15) (.tmp 112)) _ _ _ _ :: _) _ _); refine wpList_store_last rfl (.tmp 15) (.tmp 112) rfl u1.heap.size rfl (by rfl) o1 oz (by rfl) ?_; have b_ : Below u1.heap.size u1 (u1.alloc (.cells o1.cells.toArray 56)) := (Below.refl _ _).alloc (Nat.le_refl _) _; have HZ2 := Lib.hid (⟨HZ1.out.1.below b_, HZ1.out.2.below b_⟩ : Onc w _ q A' cap' ps n gd kk os' ds ∧ StAt _ q9 q9 A9 cap9 ps9 os); have HY2 := Lib.hid (HY1.out.keep b_); clear b_; generalize u1.alloc (.cells o1.cells.toArray 56) = u2 at HZ2 HY2 ⊢)
                        | ((with_reducible show wpList _ _ _ (Oper.mk (some 119) (.load _ _) _ _ _ _ :: _) _ _); refine wpList_yields (S := fun w' => KeyAt w' kb (ko + j * 6) y) (y_kyJ (by rfl) (.tmp 118) (by rfl) kb (ko + j * 6) (by rfl) y (fun _ h => h)) HY2.out ?_)
                        | (go_at_call 18; refine (named_b HZ2.out.1.st (by have := HZ2.out.1.len; have := HN.out; omega) (HT.out.below HZ2.out.1.bel) y HO2.out HB2.out).mono ?_; rintro e u3 ⟨rfl, b3⟩; have HZ3 := Lib.hid (⟨HZ2.out.1.below b3, HZ2.out.2.below b3⟩ : Onc w u3 q A' cap' ps n gd kk os' ds ∧ StAt u3 q9 q9 A9 cap9 ps9 os); clear b3)
                        | ((with_reducible show wpList _ _ _ (Oper.mk none (.store _ (.tmp 17) (.tmp 121)) _ _ _ _ :: _) _ _); refine wpList_store_last rfl (.tmp 17) (.tmp 121) rfl u3.heap.size rfl (by rfl) o2 oz (by rfl) ?_; have b_ : Below u3.heap.size u3 (u3.alloc (.cells o2.cells.toArray 56)) := (Below.refl _ _).alloc (Nat.le_refl _) _; have HZ4 := Lib.hid (⟨HZ3.out.1.below b_, HZ3.out.2.below b_⟩ : Onc w _ q A' cap' ps n gd kk os' ds ∧ StAt _ q9 q9 A9 cap9 ps9 os); clear b_; generalize u3.alloc (.cells o2.cells.toArray 56) = u4 at HZ4 ⊢; have cd : u4.cell? ⟨gd, j, none⟩ = some (.bool false) := bls_get HZ4.out.1.row HD.out; have fd : u4.frozen? ⟨gd, j, none⟩ = false := HZ4.out.1.row.frozen j; have cs : (u4.setCell ⟨gd, j, none⟩ (.bool false)).cell? ⟨gd, j, none⟩ = some (.bool false) := bls_get (bls_set HZ4.out.1.row j false) (List.getElem?_set_self HJD.out); have HZ5 := Lib.hid (⟨HZ4.out.1.put HGW.out HGN.out j false (fun _ _ h => nomatch h), st_put HZ4.out.2 HGD.out j (.bool false)⟩ : Onc w (u4.setCell ⟨gd, j, none⟩ (.bool false)) q A' cap' ps n gd kk os' (ds.set j false) ∧ StAt (u4.setCell ⟨gd, j, none⟩ (.bool false)) q9 q9 A9 cap9 ps9 os)))
                      go_roundw
                      case rel => exact ⟨j + 1, by omega, by go_num, ds.set j false, HZ5.out⟩
                      case measure => simp [intOf]; omega
                    | true =>
                      cases b2 with
                      | true =>
                        go_wp2_with (first
                          | ((with_reducible show wpList _ _ _ (Oper.mk (some 110) (.load _ _) _ _ _ _ :: _) _ _); refine wpList_yields (S := fun w' => KeyAt w' kb (ko + j * 6) y) (y_kyJ (by rfl) (.tmp 109) (by rfl) kb (ko + j * 6) (by rfl) y (fun _ h => h)) HY.out ?_)
                          | (go_at_call 18; clear M1; refine (named_b HZ.out.2 (by have := HOL.out; have := HN.out; omega) (HT.out.below HZ.out.1.bel) y HO1.out HB1.out).mono ?_; rintro e u1 ⟨rfl, b1⟩; have HZ1 := Lib.hid (⟨HZ.out.1.below b1, HZ.out.2.below b1⟩ : Onc w u1 q A' cap' ps n gd kk os' ds ∧ StAt u1 q9 q9 A9 cap9 ps9 os); have HY1 := Lib.hid (HY.out.keep b1); clear b1)
                          | ((with_reducible show wpList _ _ _ (Oper.mk none (.store _ (.tmp 15) (.tmp 112)) _ _ _ _ :: _) _ _); refine wpList_store_last rfl (.tmp 15) (.tmp 112) rfl u1.heap.size rfl (by rfl) o1 oz (by rfl) ?_; have b_ : Below u1.heap.size u1 (u1.alloc (.cells o1.cells.toArray 56)) := (Below.refl _ _).alloc (Nat.le_refl _) _; have HZ2 := Lib.hid (⟨HZ1.out.1.below b_, HZ1.out.2.below b_⟩ : Onc w _ q A' cap' ps n gd kk os' ds ∧ StAt _ q9 q9 A9 cap9 ps9 os); have HY2 := Lib.hid (HY1.out.keep b_); clear b_; generalize u1.alloc (.cells o1.cells.toArray 56) = u2 at HZ2 HY2 ⊢)
                          | ((with_reducible show wpList _ _ _ (Oper.mk (some 119) (.load _ _) _ _ _ _ :: _) _ _); refine wpList_yields (S := fun w' => KeyAt w' kb (ko + j * 6) y) (y_kyJ (by rfl) (.tmp 118) (by rfl) kb (ko + j * 6) (by rfl) y (fun _ h => h)) HY2.out ?_)
                          | (go_at_call 18; refine (named_b HZ2.out.1.st (by have := HZ2.out.1.len; have := HN.out; omega) (HT.out.below HZ2.out.1.bel) y HO2.out HB2.out).mono ?_; rintro e u3 ⟨rfl, b3⟩; have HZ3 := Lib.hid (⟨HZ2.out.1.below b3, HZ2.out.2.below b3⟩ : Onc w u3 q A' cap' ps n gd kk os' ds ∧ StAt u3 q9 q9 A9 cap9 ps9 os); clear b3)
                          | ((with_reducible show wpList _ _ _ (Oper.mk none (.store _ (.tmp 17) (.tmp 121)) _ _ _ _ :: _) _ _); refine wpList_store_last rfl (.tmp 17) (.tmp 121) rfl u3.heap.size rfl (by rfl) o2 oz (by rfl) ?_; have b_ : Below u3.heap.size u3 (u3.alloc (.cells o2.cells.toArray 56)) := (Below.refl _ _).alloc (Nat.le_refl _) _; have HZ4 := Lib.hid (⟨HZ3.out.1.below b_, HZ3.out.2.below b_⟩ : Onc w _ q A' cap' ps n gd kk os' ds ∧ StAt _ q9 q9 A9 cap9 ps9 os); clear b_; generalize u3.alloc (.cells o2.cells.toArray 56) = u4 at HZ4 ⊢; have cd : u4.cell? ⟨gd, j, none⟩ = some (.bool false) := bls_get HZ4.out.1.row HD.out; have fd : u4.frozen? ⟨gd, j, none⟩ = false := HZ4.out.1.row.frozen j; have cs : (u4.setCell ⟨gd, j, none⟩ (.bool false)).cell? ⟨gd, j, none⟩ = some (.bool false) := bls_get (bls_set HZ4.out.1.row j false) (List.getElem?_set_self HJD.out); have HZ5 := Lib.hid (⟨HZ4.out.1.put HGW.out HGN.out j false (fun _ _ h => nomatch h), st_put HZ4.out.2 HGD.out j (.bool false)⟩ : Onc w (u4.setCell ⟨gd, j, none⟩ (.bool false)) q A' cap' ps n gd kk os' (ds.set j false) ∧ StAt (u4.setCell ⟨gd, j, none⟩ (.bool false)) q9 q9 A9 cap9 ps9 os)))
                        go_roundw
                        case rel => exact ⟨j + 1, by omega, by go_num, ds.set j false, HZ5.out⟩
                        case measure => simp [intOf]; omega
                      | false =>
                        have hD : Dd os' y := dies HSY.out HB1.out HB2.out
                        have HDD := Lib.hid (show ∀ z, kk[j]? = some z → Dd os' z from fun z hz => by have e := HYK.out; rw [hz] at e; injection e with e; exact e ▸ hD)
                        go_wp2_with (first
                          | ((with_reducible show wpList _ _ _ (Oper.mk (some 110) (.load _ _) _ _ _ _ :: _) _ _); refine wpList_yields (S := fun w' => KeyAt w' kb (ko + j * 6) y) (y_kyJ (by rfl) (.tmp 109) (by rfl) kb (ko + j * 6) (by rfl) y (fun _ h => h)) HY.out ?_)
                          | (go_at_call 18; clear M1; refine (named_b HZ.out.2 (by have := HOL.out; have := HN.out; omega) (HT.out.below HZ.out.1.bel) y HO1.out HB1.out).mono ?_; rintro e u1 ⟨rfl, b1⟩; have HZ1 := Lib.hid (⟨HZ.out.1.below b1, HZ.out.2.below b1⟩ : Onc w u1 q A' cap' ps n gd kk os' ds ∧ StAt u1 q9 q9 A9 cap9 ps9 os); have HY1 := Lib.hid (HY.out.keep b1); clear b1)
                          | ((with_reducible show wpList _ _ _ (Oper.mk none (.store _ (.tmp 15) (.tmp 112)) _ _ _ _ :: _) _ _); refine wpList_store_last rfl (.tmp 15) (.tmp 112) rfl u1.heap.size rfl (by rfl) o1 oz (by rfl) ?_; have b_ : Below u1.heap.size u1 (u1.alloc (.cells o1.cells.toArray 56)) := (Below.refl _ _).alloc (Nat.le_refl _) _; have HZ2 := Lib.hid (⟨HZ1.out.1.below b_, HZ1.out.2.below b_⟩ : Onc w _ q A' cap' ps n gd kk os' ds ∧ StAt _ q9 q9 A9 cap9 ps9 os); have HY2 := Lib.hid (HY1.out.keep b_); clear b_; generalize u1.alloc (.cells o1.cells.toArray 56) = u2 at HZ2 HY2 ⊢)
                          | ((with_reducible show wpList _ _ _ (Oper.mk (some 119) (.load _ _) _ _ _ _ :: _) _ _); refine wpList_yields (S := fun w' => KeyAt w' kb (ko + j * 6) y) (y_kyJ (by rfl) (.tmp 118) (by rfl) kb (ko + j * 6) (by rfl) y (fun _ h => h)) HY2.out ?_)
                          | (go_at_call 18; refine (named_b HZ2.out.1.st (by have := HZ2.out.1.len; have := HN.out; omega) (HT.out.below HZ2.out.1.bel) y HO2.out HB2.out).mono ?_; rintro e u3 ⟨rfl, b3⟩; have HZ3 := Lib.hid (⟨HZ2.out.1.below b3, HZ2.out.2.below b3⟩ : Onc w u3 q A' cap' ps n gd kk os' ds ∧ StAt u3 q9 q9 A9 cap9 ps9 os); clear b3)
                          | ((with_reducible show wpList _ _ _ (Oper.mk none (.store _ (.tmp 17) (.tmp 121)) _ _ _ _ :: _) _ _); refine wpList_store_last rfl (.tmp 17) (.tmp 121) rfl u3.heap.size rfl (by rfl) o2 oz (by rfl) ?_; have b_ : Below u3.heap.size u3 (u3.alloc (.cells o2.cells.toArray 56)) := (Below.refl _ _).alloc (Nat.le_refl _) _; have HZ4 := Lib.hid (⟨HZ3.out.1.below b_, HZ3.out.2.below b_⟩ : Onc w _ q A' cap' ps n gd kk os' ds ∧ StAt _ q9 q9 A9 cap9 ps9 os); clear b_; generalize u3.alloc (.cells o2.cells.toArray 56) = u4 at HZ4 ⊢; have cd : u4.cell? ⟨gd, j, none⟩ = some (.bool false) := bls_get HZ4.out.1.row HD.out; have fd : u4.frozen? ⟨gd, j, none⟩ = false := HZ4.out.1.row.frozen j; have cs : (u4.setCell ⟨gd, j, none⟩ (.bool true)).cell? ⟨gd, j, none⟩ = some (.bool true) := bls_get (bls_set HZ4.out.1.row j true) (List.getElem?_set_self HJD.out); have HZ5 := Lib.hid (⟨HZ4.out.1.put HGW.out HGN.out j true (fun z hz _ => HDD.out z hz), st_put HZ4.out.2 HGD.out j (.bool true)⟩ : Onc w (u4.setCell ⟨gd, j, none⟩ (.bool true)) q A' cap' ps n gd kk os' (ds.set j true) ∧ StAt (u4.setCell ⟨gd, j, none⟩ (.bool true)) q9 q9 A9 cap9 ps9 os)))
                        go_roundw
                        case rel => exact ⟨j + 1, by omega, by go_num, ds.set j true, HZ5.out⟩
                        case measure => simp [intOf]; omega
                · obtain rfl : j = kk.length := by omega
                  have f0 : decide ((kk.length : Int) < (kk.length : Int)) = false := decide_eq_false (by omega)
                  have f1 : decide (kk.length < kk.length) = false := decide_eq_false (by omega)
                  go_wp2_with fail
                  go_roundw
                  case rel => exact ⟨k + 1, by omega, by go_num, os', ds, HZ.out.1⟩
                  case measure => simp [intOf]; omega
            · have g4 : (x.x.k == 7) = false := by simpa using h7
              go_wp2_with (first
                | ((with_reducible show wpList _ _ _ (Oper.mk (some 45) (.load _ _) _ _ _ _ :: _) _ _); refine wpList_yields (S := fun w' => JaAt w' b (off + k * 30) x) (y_ja (by rfl) (.tmp 44) (by rfl) b (off + k * 30) (by rfl) x (fun _ h => h)) HX.out ?_)
                | ((with_reducible show wpList _ _ _ (Oper.mk none (.store _ (.tmp 10) (.tmp 45)) _ _ _ _ :: _) _ _); refine wpList_store_new (l := x.cells) (l0 := zja.cells) (ty := 40) rfl (.tmp 10) (.tmp 45) (by rfl) wr.heap.size (by rfl) (by rfl) (by rfl) (by rw [Ja.len]; exact sizeJa) (by rw [Ja.len, Ja.len]) (Ja.one _) ?_; have HP1 := Lib.hid (HP.out.below ((Below.refl _ _).alloc (Nat.le_refl _) (.cells x.cells.toArray 40))); have HA1 := Lib.hid (Blk.new wr 40 x.cells.toArray); obtain ⟨ga, hga⟩ : ∃ ga, wr.heap.size = ga := ⟨_, rfl⟩; rw [hga] at HA1 ⊢; clear hga; generalize wr.alloc (.cells x.cells.toArray 40) = wa at HP1 HA1 ⊢; obtain ⟨c0, c1, c8, c9⟩ := HA1.out.ja4)
                | (go_at_call 13; refine (copy_at HP1.out.st (by have := HP1.out.len; have := HN.out; omega) (by have := HP1.out.len; have := HN1.out; omega)).mono ?_; rintro e w1 ⟨rfl, ⟨A9, cap9, ps9, hs9⟩, b1⟩; have HP2 := Lib.hid (HP1.out.below b1); have HS9 := Lib.hid hs9; have HA2 := Lib.hid (HA1.out.keep b1); have HGQ := Lib.hid (show ∀ k ∈ ps, k < wa.heap.size from fun k hk => (HP1.out.st.lt k (.inr (.inr hk))).2); have HGD := Lib.hid HP1.out.row.lt; obtain ⟨q9, hq9⟩ : ∃ q9, wa.heap.size = q9 := ⟨_, rfl⟩; rw [hq9] at HS9 HGQ HGD ⊢; clear b1 hs9 hq9 c0 c1 c8 c9; obtain ⟨c0, c1, c8, c9⟩ := HA2.out.ja4)
                | ((with_reducible show wpList _ _ _ (Oper.mk (some 55) (.load _ _) _ _ _ _ :: _) _ _); refine wpList_yields (S := fun w' => KeyAt w' ga 2 x.x) (y_kyJ (by rfl) (.tmp 54) (by rfl) ga 2 (by rfl) x.x (fun _ h => h)) HA2.out.jak ?_)
                | ((with_reducible show wpList _ _ _ (Oper.mk (some 59) (.load _ _) _ _ _ _ :: _) _ _); refine wpList_yields (S := fun w' => MgAt w' ga 10 x.m) (y_mg (by rfl) (.tmp 58) (by rfl) ga 10 (by rfl) x.m (fun _ h => h)) HA2.out.jam ?_)
                | (go_at_call 14; refine (inv_v HP2.out.st (HP2.out.len.symm ▸ HP2.out.ok) (by have := HP2.out.len; have := HN.out; omega) (by have := HP2.out.len; have := HN'.out; omega) (TabB.of HT.out HP2.out.bel HQ.out) x.i x.x x.md x.m HV.out).mono ?_; rintro e w2 ⟨rfl, hs2, hf2⟩; have HP3 := Lib.hid (HP2.out.step HQ.out hs2 hf2 HLL.out HOO.out HSY.out); have HS3 := Lib.hid (st_fr HS9.out hf2 HGQ.out); have HA3 := Lib.hid (HP2.out.st.blkF hf2 HA2.out (by decide)); clear hs2 hf2 c0 c1 c8 c9; obtain ⟨c0, c1, c8, c9⟩ := HA3.out.ja4)
                | (go_at_call 16; clear M0; refine (run_v HP3.out.st (by have := HP3.out.len; have := HN.out; omega) (by have := HP3.out.len; have := HN1.out; omega) HR1.out).mono ?_; rintro e w3 ⟨B3, e3, rfl, b3⟩; have HP4 := Lib.hid (HP3.out.below b3); have HS4 := Lib.hid (HS3.out.below b3); have HA4 := Lib.hid (HA3.out.keep b3); clear b3 c0 c1 c8 c9; obtain ⟨c0, c1, c8, c9⟩ := HA4.out.ja4)
                | (go_at_call 16; refine (run_v HS4.out (by have := HP.out.len; have := HN.out; omega) (by have := HP.out.len; have := HN1.out; omega) HR0.out).mono ?_; rintro e w4 ⟨B4, e4, rfl, b4⟩; have HP5 := Lib.hid (HP4.out.below b4); have HS5 := Lib.hid (HS4.out.below b4); have HA5 := Lib.hid (HA4.out.keep b4); clear b4 c0 c1 c8 c9; obtain ⟨c0, c1, c8, c9⟩ := HA5.out.ja4; have ck := HA5.out.jak.1))
              go_loopw [14, 15, 16, 17, 18] (fun q14 _ _ _ _ wk => ∃ j : Nat, j ≤ kk.length ∧ q14 = .int .i64 j ∧ ∃ ds, Onc w wk q A' cap' ps n gd kk os' ds ∧ StAt wk q9 q9 A9 cap9 ps9 os) (fun q14 _ _ _ _ _ => kk.length + 1 - (intOf q14).toNat)
              case atStart => exact ⟨0, by omega, rfl, ds, HP5.out, HS5.out⟩
              case round =>
                obtain ⟨j, hj, rfl, ds, hz1, hz2⟩ := hrel
                have HZ := Lib.hid (And.intro hz1 hz2)
                clear hz1 hz2
                by_cases hjl : j < kk.length
                · have f0 : decide ((j : Int) < (kk.length : Int)) = true := decide_eq_true (by omega)
                  have f1 : decide (j < kk.length) = true := decide_eq_true hjl
                  have f2 : (0 : Int) ≤ (j : Int) := by omega
                  have f3 : (j : Int) < (kk.length : Int) := by omega
                  obtain ⟨kb, ko, hA3, hky⟩ := HK.out j hjl
                  obtain ⟨y, hy⟩ : ∃ y, kk[j] = y := ⟨_, rfl⟩
                  rw [hy] at hky
                  have HY := Lib.hid (hky.keep HZ.out.1.bel)
                  have HYK := Lib.hid (show kk[j]? = some y by rw [List.getElem?_eq_getElem hjl, hy])
                  subst hA3
                  have HJD := Lib.hid (show j < ds.length by rw [HZ.out.1.dl]; exact hjl)
                  obtain ⟨d, hd⟩ : ∃ d, ds[j]? = some d := ⟨_, List.getElem?_eq_getElem HJD.out⟩
                  obtain ⟨o1, ho1⟩ : ∃ o1, (named os y).getD oz = o1 := ⟨_, rfl⟩
                  obtain ⟨o2, ho2⟩ : ∃ o2, (named os' y).getD oz = o2 := ⟨_, rfl⟩
                  obtain ⟨b1, hb1⟩ : ∃ b1, (named os y).isSome = b1 := ⟨_, rfl⟩
                  obtain ⟨b2, hb2⟩ : ∃ b2, (named os' y).isSome = b2 := ⟨_, rfl⟩
                  have HB1 := Lib.hid hb1
                  have HB2 := Lib.hid hb2
                  have HO1 := Lib.hid ho1
                  have HO2 := Lib.hid ho2
                  have HD := Lib.hid hd
                  have M1 := Lib.hid True.intro
                  clear hky hy hb1 hb2 ho1 ho2 hd
                  cases d with
                  | true =>
                    have hD : Dd os' y := HZ.out.1.dd j y HYK.out HD.out
                    have e2 : b2 = false := by rw [← HB2.out, hD.none]; rfl
                    subst e2
                    have HDD := Lib.hid (show ∀ z, kk[j]? = some z → Dd os' z from fun z hz => by have e := HYK.out; rw [hz] at e; injection e with e; exact e ▸ hD)
                    go_wp2_with (first
                      | ((with_reducible show wpList _ _ _ (Oper.mk (some 110) (.load _ _) _ _ _ _ :: _) _ _); refine wpList_yields (S := fun w' => KeyAt w' kb (ko + j * 6) y) (y_kyJ (by rfl) (.tmp 109) (by rfl) kb (ko + j * 6) (by rfl) y (fun _ h => h)) HY.out ?_)
                      | (go_at_call 18; clear M1; refine (named_b HZ.out.2 (by have := HOL.out; have := HN.out; omega) (HT.out.below HZ.out.1.bel) y HO1.out HB1.out).mono ?_; rintro e u1 ⟨rfl, b1⟩; have HZ1 := Lib.hid (⟨HZ.out.1.below b1, HZ.out.2.below b1⟩ : Onc w u1 q A' cap' ps n gd kk os' ds ∧ StAt u1 q9 q9 A9 cap9 ps9 os); have HY1 := Lib.hid (HY.out.keep b1); clear b1)
                      | ((with_reducible show wpList _ _ _ (Oper.mk none (.store _ (.tmp 15) (.tmp 112)) _ _ _ _ :: _) _ _); refine wpList_store_last rfl (.tmp 15) (.tmp 112) rfl u1.heap.size rfl (by rfl) o1 oz (by rfl) ?_; have b_ : Below u1.heap.size u1 (u1.alloc (.cells o1.cells.toArray 56)) := (Below.refl _ _).alloc (Nat.le_refl _) _; have HZ2 := Lib.hid (⟨HZ1.out.1.below b_, HZ1.out.2.below b_⟩ : Onc w _ q A' cap' ps n gd kk os' ds ∧ StAt _ q9 q9 A9 cap9 ps9 os); have HY2 := Lib.hid (HY1.out.keep b_); clear b_; generalize u1.alloc (.cells o1.cells.toArray 56) = u2 at HZ2 HY2 ⊢)
                      | ((with_reducible show wpList _ _ _ (Oper.mk (some 119) (.load _ _) _ _ _ _ :: _) _ _); refine wpList_yields (S := fun w' => KeyAt w' kb (ko + j * 6) y) (y_kyJ (by rfl) (.tmp 118) (by rfl) kb (ko + j * 6) (by rfl) y (fun _ h => h)) HY2.out ?_)
                      | (go_at_call 18; refine (named_b HZ2.out.1.st (by have := HZ2.out.1.len; have := HN.out; omega) (HT.out.below HZ2.out.1.bel) y HO2.out HB2.out).mono ?_; rintro e u3 ⟨rfl, b3⟩; have HZ3 := Lib.hid (⟨HZ2.out.1.below b3, HZ2.out.2.below b3⟩ : Onc w u3 q A' cap' ps n gd kk os' ds ∧ StAt u3 q9 q9 A9 cap9 ps9 os); clear b3)
                      | ((with_reducible show wpList _ _ _ (Oper.mk none (.store _ (.tmp 17) (.tmp 121)) _ _ _ _ :: _) _ _); refine wpList_store_last rfl (.tmp 17) (.tmp 121) rfl u3.heap.size rfl (by rfl) o2 oz (by rfl) ?_; have b_ : Below u3.heap.size u3 (u3.alloc (.cells o2.cells.toArray 56)) := (Below.refl _ _).alloc (Nat.le_refl _) _; have HZ4 := Lib.hid (⟨HZ3.out.1.below b_, HZ3.out.2.below b_⟩ : Onc w _ q A' cap' ps n gd kk os' ds ∧ StAt _ q9 q9 A9 cap9 ps9 os); clear b_; generalize u3.alloc (.cells o2.cells.toArray 56) = u4 at HZ4 ⊢; have cd : u4.cell? ⟨gd, j, none⟩ = some (.bool true) := bls_get HZ4.out.1.row HD.out; have fd : u4.frozen? ⟨gd, j, none⟩ = false := HZ4.out.1.row.frozen j; have cs : (u4.setCell ⟨gd, j, none⟩ (.bool true)).cell? ⟨gd, j, none⟩ = some (.bool true) := bls_get (bls_set HZ4.out.1.row j true) (List.getElem?_set_self HJD.out); have HZ5 := Lib.hid (⟨HZ4.out.1.put HGW.out HGN.out j true (fun z hz _ => HDD.out z hz), st_put HZ4.out.2 HGD.out j (.bool true)⟩ : Onc w (u4.setCell ⟨gd, j, none⟩ (.bool true)) q A' cap' ps n gd kk os' (ds.set j true) ∧ StAt (u4.setCell ⟨gd, j, none⟩ (.bool true)) q9 q9 A9 cap9 ps9 os)))
                    go_roundw
                    case rel => exact ⟨j + 1, by omega, by go_num, ds.set j true, HZ5.out⟩
                    case measure => simp [intOf]; omega
                  | false =>
                    cases b1 with
                    | false =>
                      go_wp2_with (first
                        | ((with_reducible show wpList _ _ _ (Oper.mk (some 110) (.load _ _) _ _ _ _ :: _) _ _); refine wpList_yields (S := fun w' => KeyAt w' kb (ko + j * 6) y) (y_kyJ (by rfl) (.tmp 109) (by rfl) kb (ko + j * 6) (by rfl) y (fun _ h => h)) HY.out ?_)
                        | (go_at_call 18; clear M1; refine (named_b HZ.out.2 (by have := HOL.out; have := HN.out; omega) (HT.out.below HZ.out.1.bel) y HO1.out HB1.out).mono ?_; rintro e u1 ⟨rfl, b1⟩; have HZ1 := Lib.hid (⟨HZ.out.1.below b1, HZ.out.2.below b1⟩ : Onc w u1 q A' cap' ps n gd kk os' ds ∧ StAt u1 q9 q9 A9 cap9 ps9 os); have HY1 := Lib.hid (HY.out.keep b1); clear b1)
                        | ((with_reducible show wpList _ _ _ (Oper.mk none (.store _ (.tmp 15) (.tmp 112)) _ _ _ _ :: _) _ _); refine wpList_store_last rfl (.tmp 15) (.tmp 112) rfl u1.heap.size rfl (by rfl) o1 oz (by rfl) ?_; have b_ : Below u1.heap.size u1 (u1.alloc (.cells o1.cells.toArray 56)) := (Below.refl _ _).alloc (Nat.le_refl _) _; have HZ2 := Lib.hid (⟨HZ1.out.1.below b_, HZ1.out.2.below b_⟩ : Onc w _ q A' cap' ps n gd kk os' ds ∧ StAt _ q9 q9 A9 cap9 ps9 os); have HY2 := Lib.hid (HY1.out.keep b_); clear b_; generalize u1.alloc (.cells o1.cells.toArray 56) = u2 at HZ2 HY2 ⊢)
                        | ((with_reducible show wpList _ _ _ (Oper.mk (some 119) (.load _ _) _ _ _ _ :: _) _ _); refine wpList_yields (S := fun w' => KeyAt w' kb (ko + j * 6) y) (y_kyJ (by rfl) (.tmp 118) (by rfl) kb (ko + j * 6) (by rfl) y (fun _ h => h)) HY2.out ?_)
                        | (go_at_call 18; refine (named_b HZ2.out.1.st (by have := HZ2.out.1.len; have := HN.out; omega) (HT.out.below HZ2.out.1.bel) y HO2.out HB2.out).mono ?_; rintro e u3 ⟨rfl, b3⟩; have HZ3 := Lib.hid (⟨HZ2.out.1.below b3, HZ2.out.2.below b3⟩ : Onc w u3 q A' cap' ps n gd kk os' ds ∧ StAt u3 q9 q9 A9 cap9 ps9 os); clear b3)
                        | ((with_reducible show wpList _ _ _ (Oper.mk none (.store _ (.tmp 17) (.tmp 121)) _ _ _ _ :: _) _ _); refine wpList_store_last rfl (.tmp 17) (.tmp 121) rfl u3.heap.size rfl (by rfl) o2 oz (by rfl) ?_; have b_ : Below u3.heap.size u3 (u3.alloc (.cells o2.cells.toArray 56)) := (Below.refl _ _).alloc (Nat.le_refl _) _; have HZ4 := Lib.hid (⟨HZ3.out.1.below b_, HZ3.out.2.below b_⟩ : Onc w _ q A' cap' ps n gd kk os' ds ∧ StAt _ q9 q9 A9 cap9 ps9 os); clear b_; generalize u3.alloc (.cells o2.cells.toArray 56) = u4 at HZ4 ⊢; have cd : u4.cell? ⟨gd, j, none⟩ = some (.bool false) := bls_get HZ4.out.1.row HD.out; have fd : u4.frozen? ⟨gd, j, none⟩ = false := HZ4.out.1.row.frozen j; have cs : (u4.setCell ⟨gd, j, none⟩ (.bool false)).cell? ⟨gd, j, none⟩ = some (.bool false) := bls_get (bls_set HZ4.out.1.row j false) (List.getElem?_set_self HJD.out); have HZ5 := Lib.hid (⟨HZ4.out.1.put HGW.out HGN.out j false (fun _ _ h => nomatch h), st_put HZ4.out.2 HGD.out j (.bool false)⟩ : Onc w (u4.setCell ⟨gd, j, none⟩ (.bool false)) q A' cap' ps n gd kk os' (ds.set j false) ∧ StAt (u4.setCell ⟨gd, j, none⟩ (.bool false)) q9 q9 A9 cap9 ps9 os)))
                      go_roundw
                      case rel => exact ⟨j + 1, by omega, by go_num, ds.set j false, HZ5.out⟩
                      case measure => simp [intOf]; omega
                    | true =>
                      cases b2 with
                      | true =>
                        go_wp2_with (first
                          | ((with_reducible show wpList _ _ _ (Oper.mk (some 110) (.load _ _) _ _ _ _ :: _) _ _); refine wpList_yields (S := fun w' => KeyAt w' kb (ko + j * 6) y) (y_kyJ (by rfl) (.tmp 109) (by rfl) kb (ko + j * 6) (by rfl) y (fun _ h => h)) HY.out ?_)
                          | (go_at_call 18; clear M1; refine (named_b HZ.out.2 (by have := HOL.out; have := HN.out; omega) (HT.out.below HZ.out.1.bel) y HO1.out HB1.out).mono ?_; rintro e u1 ⟨rfl, b1⟩; have HZ1 := Lib.hid (⟨HZ.out.1.below b1, HZ.out.2.below b1⟩ : Onc w u1 q A' cap' ps n gd kk os' ds ∧ StAt u1 q9 q9 A9 cap9 ps9 os); have HY1 := Lib.hid (HY.out.keep b1); clear b1)
                          | ((with_reducible show wpList _ _ _ (Oper.mk none (.store _ (.tmp 15) (.tmp 112)) _ _ _ _ :: _) _ _); refine wpList_store_last rfl (.tmp 15) (.tmp 112) rfl u1.heap.size rfl (by rfl) o1 oz (by rfl) ?_; have b_ : Below u1.heap.size u1 (u1.alloc (.cells o1.cells.toArray 56)) := (Below.refl _ _).alloc (Nat.le_refl _) _; have HZ2 := Lib.hid (⟨HZ1.out.1.below b_, HZ1.out.2.below b_⟩ : Onc w _ q A' cap' ps n gd kk os' ds ∧ StAt _ q9 q9 A9 cap9 ps9 os); have HY2 := Lib.hid (HY1.out.keep b_); clear b_; generalize u1.alloc (.cells o1.cells.toArray 56) = u2 at HZ2 HY2 ⊢)
                          | ((with_reducible show wpList _ _ _ (Oper.mk (some 119) (.load _ _) _ _ _ _ :: _) _ _); refine wpList_yields (S := fun w' => KeyAt w' kb (ko + j * 6) y) (y_kyJ (by rfl) (.tmp 118) (by rfl) kb (ko + j * 6) (by rfl) y (fun _ h => h)) HY2.out ?_)
                          | (go_at_call 18; refine (named_b HZ2.out.1.st (by have := HZ2.out.1.len; have := HN.out; omega) (HT.out.below HZ2.out.1.bel) y HO2.out HB2.out).mono ?_; rintro e u3 ⟨rfl, b3⟩; have HZ3 := Lib.hid (⟨HZ2.out.1.below b3, HZ2.out.2.below b3⟩ : Onc w u3 q A' cap' ps n gd kk os' ds ∧ StAt u3 q9 q9 A9 cap9 ps9 os); clear b3)
                          | ((with_reducible show wpList _ _ _ (Oper.mk none (.store _ (.tmp 17) (.tmp 121)) _ _ _ _ :: _) _ _); refine wpList_store_last rfl (.tmp 17) (.tmp 121) rfl u3.heap.size rfl (by rfl) o2 oz (by rfl) ?_; have b_ : Below u3.heap.size u3 (u3.alloc (.cells o2.cells.toArray 56)) := (Below.refl _ _).alloc (Nat.le_refl _) _; have HZ4 := Lib.hid (⟨HZ3.out.1.below b_, HZ3.out.2.below b_⟩ : Onc w _ q A' cap' ps n gd kk os' ds ∧ StAt _ q9 q9 A9 cap9 ps9 os); clear b_; generalize u3.alloc (.cells o2.cells.toArray 56) = u4 at HZ4 ⊢; have cd : u4.cell? ⟨gd, j, none⟩ = some (.bool false) := bls_get HZ4.out.1.row HD.out; have fd : u4.frozen? ⟨gd, j, none⟩ = false := HZ4.out.1.row.frozen j; have cs : (u4.setCell ⟨gd, j, none⟩ (.bool false)).cell? ⟨gd, j, none⟩ = some (.bool false) := bls_get (bls_set HZ4.out.1.row j false) (List.getElem?_set_self HJD.out); have HZ5 := Lib.hid (⟨HZ4.out.1.put HGW.out HGN.out j false (fun _ _ h => nomatch h), st_put HZ4.out.2 HGD.out j (.bool false)⟩ : Onc w (u4.setCell ⟨gd, j, none⟩ (.bool false)) q A' cap' ps n gd kk os' (ds.set j false) ∧ StAt (u4.setCell ⟨gd, j, none⟩ (.bool false)) q9 q9 A9 cap9 ps9 os)))
                        go_roundw
                        case rel => exact ⟨j + 1, by omega, by go_num, ds.set j false, HZ5.out⟩
                        case measure => simp [intOf]; omega
                      | false =>
                        have hD : Dd os' y := dies HSY.out HB1.out HB2.out
                        have HDD := Lib.hid (show ∀ z, kk[j]? = some z → Dd os' z from fun z hz => by have e := HYK.out; rw [hz] at e; injection e with e; exact e ▸ hD)
                        go_wp2_with (first
                          | ((with_reducible show wpList _ _ _ (Oper.mk (some 110) (.load _ _) _ _ _ _ :: _) _ _); refine wpList_yields (S := fun w' => KeyAt w' kb (ko + j * 6) y) (y_kyJ (by rfl) (.tmp 109) (by rfl) kb (ko + j * 6) (by rfl) y (fun _ h => h)) HY.out ?_)
                          | (go_at_call 18; clear M1; refine (named_b HZ.out.2 (by have := HOL.out; have := HN.out; omega) (HT.out.below HZ.out.1.bel) y HO1.out HB1.out).mono ?_; rintro e u1 ⟨rfl, b1⟩; have HZ1 := Lib.hid (⟨HZ.out.1.below b1, HZ.out.2.below b1⟩ : Onc w u1 q A' cap' ps n gd kk os' ds ∧ StAt u1 q9 q9 A9 cap9 ps9 os); have HY1 := Lib.hid (HY.out.keep b1); clear b1)
                          | ((with_reducible show wpList _ _ _ (Oper.mk none (.store _ (.tmp 15) (.tmp 112)) _ _ _ _ :: _) _ _); refine wpList_store_last rfl (.tmp 15) (.tmp 112) rfl u1.heap.size rfl (by rfl) o1 oz (by rfl) ?_; have b_ : Below u1.heap.size u1 (u1.alloc (.cells o1.cells.toArray 56)) := (Below.refl _ _).alloc (Nat.le_refl _) _; have HZ2 := Lib.hid (⟨HZ1.out.1.below b_, HZ1.out.2.below b_⟩ : Onc w _ q A' cap' ps n gd kk os' ds ∧ StAt _ q9 q9 A9 cap9 ps9 os); have HY2 := Lib.hid (HY1.out.keep b_); clear b_; generalize u1.alloc (.cells o1.cells.toArray 56) = u2 at HZ2 HY2 ⊢)
                          | ((with_reducible show wpList _ _ _ (Oper.mk (some 119) (.load _ _) _ _ _ _ :: _) _ _); refine wpList_yields (S := fun w' => KeyAt w' kb (ko + j * 6) y) (y_kyJ (by rfl) (.tmp 118) (by rfl) kb (ko + j * 6) (by rfl) y (fun _ h => h)) HY2.out ?_)
                          | (go_at_call 18; refine (named_b HZ2.out.1.st (by have := HZ2.out.1.len; have := HN.out; omega) (HT.out.below HZ2.out.1.bel) y HO2.out HB2.out).mono ?_; rintro e u3 ⟨rfl, b3⟩; have HZ3 := Lib.hid (⟨HZ2.out.1.below b3, HZ2.out.2.below b3⟩ : Onc w u3 q A' cap' ps n gd kk os' ds ∧ StAt u3 q9 q9 A9 cap9 ps9 os); clear b3)
                          | ((with_reducible show wpList _ _ _ (Oper.mk none (.store _ (.tmp 17) (.tmp 121)) _ _ _ _ :: _) _ _); refine wpList_store_last rfl (.tmp 17) (.tmp 121) rfl u3.heap.size rfl (by rfl) o2 oz (by rfl) ?_; have b_ : Below u3.heap.size u3 (u3.alloc (.cells o2.cells.toArray 56)) := (Below.refl _ _).alloc (Nat.le_refl _) _; have HZ4 := Lib.hid (⟨HZ3.out.1.below b_, HZ3.out.2.below b_⟩ : Onc w _ q A' cap' ps n gd kk os' ds ∧ StAt _ q9 q9 A9 cap9 ps9 os); clear b_; generalize u3.alloc (.cells o2.cells.toArray 56) = u4 at HZ4 ⊢; have cd : u4.cell? ⟨gd, j, none⟩ = some (.bool false) := bls_get HZ4.out.1.row HD.out; have fd : u4.frozen? ⟨gd, j, none⟩ = false := HZ4.out.1.row.frozen j; have cs : (u4.setCell ⟨gd, j, none⟩ (.bool true)).cell? ⟨gd, j, none⟩ = some (.bool true) := bls_get (bls_set HZ4.out.1.row j true) (List.getElem?_set_self HJD.out); have HZ5 := Lib.hid (⟨HZ4.out.1.put HGW.out HGN.out j true (fun z hz _ => HDD.out z hz), st_put HZ4.out.2 HGD.out j (.bool true)⟩ : Onc w (u4.setCell ⟨gd, j, none⟩ (.bool true)) q A' cap' ps n gd kk os' (ds.set j true) ∧ StAt (u4.setCell ⟨gd, j, none⟩ (.bool true)) q9 q9 A9 cap9 ps9 os)))
                        go_roundw
                        case rel => exact ⟨j + 1, by omega, by go_num, ds.set j true, HZ5.out⟩
                        case measure => simp [intOf]; omega
                · obtain rfl : j = kk.length := by omega
                  have f0 : decide ((kk.length : Int) < (kk.length : Int)) = false := decide_eq_false (by omega)
                  have f1 : decide (kk.length < kk.length) = false := decide_eq_false (by omega)
                  go_wp2_with fail
                  go_roundw
                  case rel => exact ⟨k + 1, by omega, by go_num, os', ds, HZ.out.1⟩
                  case measure => simp [intOf]; omega
          · have g3 : decide (r0 < r1) = false := decide_eq_false hgt
            have g3b : decide ((0 : Int) < (r1 : Int) - (r0 : Int)) = false := decide_eq_false (by omega)
            by_cases h7 : x.x.k = 7
            · have g4 : (x.x.k == 7) = true := by simpa using h7
              replace HGO := Lib.hid (HGO.out h7)
              go_wp2_with (first
                | ((with_reducible show wpList _ _ _ (Oper.mk (some 45) (.load _ _) _ _ _ _ :: _) _ _); refine wpList_yields (S := fun w' => JaAt w' b (off + k * 30) x) (y_ja (by rfl) (.tmp 44) (by rfl) b (off + k * 30) (by rfl) x (fun _ h => h)) HX.out ?_)
                | ((with_reducible show wpList _ _ _ (Oper.mk none (.store _ (.tmp 10) (.tmp 45)) _ _ _ _ :: _) _ _); refine wpList_store_new (l := x.cells) (l0 := zja.cells) (ty := 40) rfl (.tmp 10) (.tmp 45) (by rfl) wr.heap.size (by rfl) (by rfl) (by rfl) (by rw [Ja.len]; exact sizeJa) (by rw [Ja.len, Ja.len]) (Ja.one _) ?_; have HP1 := Lib.hid (HP.out.below ((Below.refl _ _).alloc (Nat.le_refl _) (.cells x.cells.toArray 40))); have HA1 := Lib.hid (Blk.new wr 40 x.cells.toArray); obtain ⟨ga, hga⟩ : ∃ ga, wr.heap.size = ga := ⟨_, rfl⟩; rw [hga] at HA1 ⊢; clear hga; generalize wr.alloc (.cells x.cells.toArray 40) = wa at HP1 HA1 ⊢; obtain ⟨c0, c1, c8, c9⟩ := HA1.out.ja4)
                | (go_at_call 13; refine (copy_at HP1.out.st (by have := HP1.out.len; have := HN.out; omega) (by have := HP1.out.len; have := HN1.out; omega)).mono ?_; rintro e w1 ⟨rfl, ⟨A9, cap9, ps9, hs9⟩, b1⟩; have HP2 := Lib.hid (HP1.out.below b1); have HS9 := Lib.hid hs9; have HA2 := Lib.hid (HA1.out.keep b1); have HGQ := Lib.hid (show ∀ k ∈ ps, k < wa.heap.size from fun k hk => (HP1.out.st.lt k (.inr (.inr hk))).2); have HGD := Lib.hid HP1.out.row.lt; obtain ⟨q9, hq9⟩ : ∃ q9, wa.heap.size = q9 := ⟨_, rfl⟩; rw [hq9] at HS9 HGQ HGD ⊢; clear b1 hs9 hq9 c0 c1 c8 c9; obtain ⟨c0, c1, c8, c9⟩ := HA2.out.ja4)
                | ((with_reducible show wpList _ _ _ (Oper.mk (some 55) (.load _ _) _ _ _ _ :: _) _ _); refine wpList_yields (S := fun w' => KeyAt w' ga 2 x.x) (y_kyJ (by rfl) (.tmp 54) (by rfl) ga 2 (by rfl) x.x (fun _ h => h)) HA2.out.jak ?_)
                | ((with_reducible show wpList _ _ _ (Oper.mk (some 59) (.load _ _) _ _ _ _ :: _) _ _); refine wpList_yields (S := fun w' => MgAt w' ga 10 x.m) (y_mg (by rfl) (.tmp 58) (by rfl) ga 10 (by rfl) x.m (fun _ h => h)) HA2.out.jam ?_)
                | (go_at_call 14; refine (inv_v HP2.out.st (HP2.out.len.symm ▸ HP2.out.ok) (by have := HP2.out.len; have := HN.out; omega) (by have := HP2.out.len; have := HN'.out; omega) (TabB.of HT.out HP2.out.bel HQ.out) x.i x.x x.md x.m HV.out).mono ?_; rintro e w2 ⟨rfl, hs2, hf2⟩; have HP3 := Lib.hid (HP2.out.step HQ.out hs2 hf2 HLL.out HOO.out HSY.out); have HS3 := Lib.hid (st_fr HS9.out hf2 HGQ.out); have HA3 := Lib.hid (HP2.out.st.blkF hf2 HA2.out (by decide)); clear hs2 hf2 c0 c1 c8 c9; obtain ⟨c0, c1, c8, c9⟩ := HA3.out.ja4)
                | (go_at_call 16; clear M0; refine (run_v HP3.out.st (by have := HP3.out.len; have := HN.out; omega) (by have := HP3.out.len; have := HN1.out; omega) HR1.out).mono ?_; rintro e w3 ⟨B3, e3, rfl, b3⟩; have HP4 := Lib.hid (HP3.out.below b3); have HS4 := Lib.hid (HS3.out.below b3); have HA4 := Lib.hid (HA3.out.keep b3); clear b3 c0 c1 c8 c9; obtain ⟨c0, c1, c8, c9⟩ := HA4.out.ja4)
                | (go_at_call 16; refine (run_v HS4.out (by have := HP.out.len; have := HN.out; omega) (by have := HP.out.len; have := HN1.out; omega) HR0.out).mono ?_; rintro e w4 ⟨B4, e4, rfl, b4⟩; have HP5 := Lib.hid (HP4.out.below b4); have HS5 := Lib.hid (HS4.out.below b4); have HA5 := Lib.hid (HA4.out.keep b4); clear b4 c0 c1 c8 c9; obtain ⟨c0, c1, c8, c9⟩ := HA5.out.ja4; have ck := HA5.out.jak.1)
                | ((with_reducible show wpList _ _ _ (Oper.mk (some 93) (.load _ _) _ _ _ _ :: _) _ _); refine wpList_yields (S := fun w' => KeyAt w' ga 2 x.x) (y_kyJ (by rfl) (.tmp 92) (by rfl) ga 2 (by rfl) x.x (fun _ h => h)) HA5.out.jak ?_)
                | (go_at_call 17; refine (prep_v HP5.out.st (by have := HP5.out.len; have := HN.out; omega) (HT.out.below HP5.out.bel) x.x HGO.out).mono ?_; rintro e w5 ⟨rfl, b5⟩; have HP6 := Lib.hid (HP5.out.below b5); have HS6 := Lib.hid (HS5.out.below b5); clear b5 c0 c1 c8 c9 ck)
                | ((with_reducible show wpList _ _ _ (Oper.mk (some 95) (.build _ _) _ _ _ _ :: _) _ _); refine wpList_yields (S := fun _ => True) (y_build (by rfl) (by rfl) built30) trivial ?_)
                | ((with_reducible show wpList _ _ _ (Oper.mk (some 96) (.binOp _ _ _ _ _) _ _ _ _ :: _) _ _); refine wpList_yields (S := fun _ => True) (y_ne0 (by rfl) (by rfl) zk (by rfl) (by rfl)) trivial ?_))
              go_loopw [14, 15, 16, 17, 18] (fun q14 _ _ _ _ wk => ∃ j : Nat, j ≤ kk.length ∧ q14 = .int .i64 j ∧ ∃ ds, Onc w wk q A' cap' ps n gd kk os' ds ∧ StAt wk q9 q9 A9 cap9 ps9 os) (fun q14 _ _ _ _ _ => kk.length + 1 - (intOf q14).toNat)
              case atStart => exact ⟨0, by omega, rfl, ds, HP6.out, HS6.out⟩
              case round =>
                obtain ⟨j, hj, rfl, ds, hz1, hz2⟩ := hrel
                have HZ := Lib.hid (And.intro hz1 hz2)
                clear hz1 hz2
                by_cases hjl : j < kk.length
                · have f0 : decide ((j : Int) < (kk.length : Int)) = true := decide_eq_true (by omega)
                  have f1 : decide (j < kk.length) = true := decide_eq_true hjl
                  have f2 : (0 : Int) ≤ (j : Int) := by omega
                  have f3 : (j : Int) < (kk.length : Int) := by omega
                  obtain ⟨kb, ko, hA3, hky⟩ := HK.out j hjl
                  obtain ⟨y, hy⟩ : ∃ y, kk[j] = y := ⟨_, rfl⟩
                  rw [hy] at hky
                  have HY := Lib.hid (hky.keep HZ.out.1.bel)
                  have HYK := Lib.hid (show kk[j]? = some y by rw [List.getElem?_eq_getElem hjl, hy])
                  subst hA3
                  have HJD := Lib.hid (show j < ds.length by rw [HZ.out.1.dl]; exact hjl)
                  obtain ⟨d, hd⟩ : ∃ d, ds[j]? = some d := ⟨_, List.getElem?_eq_getElem HJD.out⟩
                  obtain ⟨o1, ho1⟩ : ∃ o1, (named os y).getD oz = o1 := ⟨_, rfl⟩
                  obtain ⟨o2, ho2⟩ : ∃ o2, (named os' y).getD oz = o2 := ⟨_, rfl⟩
                  obtain ⟨b1, hb1⟩ : ∃ b1, (named os y).isSome = b1 := ⟨_, rfl⟩
                  obtain ⟨b2, hb2⟩ : ∃ b2, (named os' y).isSome = b2 := ⟨_, rfl⟩
                  have HB1 := Lib.hid hb1
                  have HB2 := Lib.hid hb2
                  have HO1 := Lib.hid ho1
                  have HO2 := Lib.hid ho2
                  have HD := Lib.hid hd
                  have M1 := Lib.hid True.intro
                  clear hky hy hb1 hb2 ho1 ho2 hd
                  cases d with
                  | true =>
                    have hD : Dd os' y := HZ.out.1.dd j y HYK.out HD.out
                    have e2 : b2 = false := by rw [← HB2.out, hD.none]; rfl
                    subst e2
                    have HDD := Lib.hid (show ∀ z, kk[j]? = some z → Dd os' z from fun z hz => by have e := HYK.out; rw [hz] at e; injection e with e; exact e ▸ hD)
                    go_wp2_with (first
                      | ((with_reducible show wpList _ _ _ (Oper.mk (some 110) (.load _ _) _ _ _ _ :: _) _ _); refine wpList_yields (S := fun w' => KeyAt w' kb (ko + j * 6) y) (y_kyJ (by rfl) (.tmp 109) (by rfl) kb (ko + j * 6) (by rfl) y (fun _ h => h)) HY.out ?_)
                      | (go_at_call 18; clear M1; refine (named_b HZ.out.2 (by have := HOL.out; have := HN.out; omega) (HT.out.below HZ.out.1.bel) y HO1.out HB1.out).mono ?_; rintro e u1 ⟨rfl, b1⟩; have HZ1 := Lib.hid (⟨HZ.out.1.below b1, HZ.out.2.below b1⟩ : Onc w u1 q A' cap' ps n gd kk os' ds ∧ StAt u1 q9 q9 A9 cap9 ps9 os); have HY1 := Lib.hid (HY.out.keep b1); clear b1)
                      | ((with_reducible show wpList _ _ _ (Oper.mk none (.store _ (.tmp 15) (.tmp 112)) _ _ _ _ :: _) _ _); refine wpList_store_last rfl (.tmp 15) (.tmp 112) rfl u1.heap.size rfl (by rfl) o1 oz (by rfl) ?_; have b_ : Below u1.heap.size u1 (u1.alloc (.cells o1.cells.toArray 56)) := (Below.refl _ _).alloc (Nat.le_refl _) _; have HZ2 := Lib.hid (⟨HZ1.out.1.below b_, HZ1.out.2.below b_⟩ : Onc w _ q A' cap' ps n gd kk os' ds ∧ StAt _ q9 q9 A9 cap9 ps9 os); have HY2 := Lib.hid (HY1.out.keep b_); clear b_; generalize u1.alloc (.cells o1.cells.toArray 56) = u2 at HZ2 HY2 ⊢)
                      | ((with_reducible show wpList _ _ _ (Oper.mk (some 119) (.load _ _) _ _ _ _ :: _) _ _); refine wpList_yields (S := fun w' => KeyAt w' kb (ko + j * 6) y) (y_kyJ (by rfl) (.tmp 118) (by rfl) kb (ko + j * 6) (by rfl) y (fun _ h => h)) HY2.out ?_)
                      | (go_at_call 18; refine (named_b HZ2.out.1.st (by have := HZ2.out.1.len; have := HN.out; omega) (HT.out.below HZ2.out.1.bel) y HO2.out HB2.out).mono ?_; rintro e u3 ⟨rfl, b3⟩; have HZ3 := Lib.hid (⟨HZ2.out.1.below b3, HZ2.out.2.below b3⟩ : Onc w u3 q A' cap' ps n gd kk os' ds ∧ StAt u3 q9 q9 A9 cap9 ps9 os); clear b3)
                      | ((with_reducible show wpList _ _ _ (Oper.mk none (.store _ (.tmp 17) (.tmp 121)) _ _ _ _ :: _) _ _); refine wpList_store_last rfl (.tmp 17) (.tmp 121) rfl u3.heap.size rfl (by rfl) o2 oz (by rfl) ?_; have b_ : Below u3.heap.size u3 (u3.alloc (.cells o2.cells.toArray 56)) := (Below.refl _ _).alloc (Nat.le_refl _) _; have HZ4 := Lib.hid (⟨HZ3.out.1.below b_, HZ3.out.2.below b_⟩ : Onc w _ q A' cap' ps n gd kk os' ds ∧ StAt _ q9 q9 A9 cap9 ps9 os); clear b_; generalize u3.alloc (.cells o2.cells.toArray 56) = u4 at HZ4 ⊢; have cd : u4.cell? ⟨gd, j, none⟩ = some (.bool true) := bls_get HZ4.out.1.row HD.out; have fd : u4.frozen? ⟨gd, j, none⟩ = false := HZ4.out.1.row.frozen j; have cs : (u4.setCell ⟨gd, j, none⟩ (.bool true)).cell? ⟨gd, j, none⟩ = some (.bool true) := bls_get (bls_set HZ4.out.1.row j true) (List.getElem?_set_self HJD.out); have HZ5 := Lib.hid (⟨HZ4.out.1.put HGW.out HGN.out j true (fun z hz _ => HDD.out z hz), st_put HZ4.out.2 HGD.out j (.bool true)⟩ : Onc w (u4.setCell ⟨gd, j, none⟩ (.bool true)) q A' cap' ps n gd kk os' (ds.set j true) ∧ StAt (u4.setCell ⟨gd, j, none⟩ (.bool true)) q9 q9 A9 cap9 ps9 os)))
                    go_roundw
                    case rel => exact ⟨j + 1, by omega, by go_num, ds.set j true, HZ5.out⟩
                    case measure => simp [intOf]; omega
                  | false =>
                    cases b1 with
                    | false =>
                      go_wp2_with (first
                        | ((with_reducible show wpList _ _ _ (Oper.mk (some 110) (.load _ _) _ _ _ _ :: _) _ _); refine wpList_yields (S := fun w' => KeyAt w' kb (ko + j * 6) y) (y_kyJ (by rfl) (.tmp 109) (by rfl) kb (ko + j * 6) (by rfl) y (fun _ h => h)) HY.out ?_)
                        | (go_at_call 18; clear M1; refine (named_b HZ.out.2 (by have := HOL.out; have := HN.out; omega) (HT.out.below HZ.out.1.bel) y HO1.out HB1.out).mono ?_; rintro e u1 ⟨rfl, b1⟩; have HZ1 := Lib.hid (⟨HZ.out.1.below b1, HZ.out.2.below b1⟩ : Onc w u1 q A' cap' ps n gd kk os' ds ∧ StAt u1 q9 q9 A9 cap9 ps9 os); have HY1 := Lib.hid (HY.out.keep b1); clear b1)
                        | ((with_reducible show wpList _ _ _ (Oper.mk none (.store _ (.tmp 15) (.tmp 112)) _ _ _ _ :: _) _ _); refine wpList_store_last rfl (.tmp 15) (.tmp 112) rfl u1.heap.size rfl (by rfl) o1 oz (by rfl) ?_; have b_ : Below u1.heap.size u1 (u1.alloc (.cells o1.cells.toArray 56)) := (Below.refl _ _).alloc (Nat.le_refl _) _; have HZ2 := Lib.hid (⟨HZ1.out.1.below b_, HZ1.out.2.below b_⟩ : Onc w _ q A' cap' ps n gd kk os' ds ∧ StAt _ q9 q9 A9 cap9 ps9 os); have HY2 := Lib.hid (HY1.out.keep b_); clear b_; generalize u1.alloc (.cells o1.cells.toArray 56) = u2 at HZ2 HY2 ⊢)
                        | ((with_reducible show wpList _ _ _ (Oper.mk (some 119) (.load _ _) _ _ _ _ :: _) _ _); refine wpList_yields (S := fun w' => KeyAt w' kb (ko + j * 6) y) (y_kyJ (by rfl) (.tmp 118) (by rfl) kb (ko + j * 6) (by rfl) y (fun _ h => h)) HY2.out ?_)
                        | (go_at_call 18; refine (named_b HZ2.out.1.st (by have := HZ2.out.1.len; have := HN.out; omega) (HT.out.below HZ2.out.1.bel) y HO2.out HB2.out).mono ?_; rintro e u3 ⟨rfl, b3⟩; have HZ3 := Lib.hid (⟨HZ2.out.1.below b3, HZ2.out.2.below b3⟩ : Onc w u3 q A' cap' ps n gd kk os' ds ∧ StAt u3 q9 q9 A9 cap9 ps9 os); clear b3)
                        | ((with_reducible show wpList _ _ _ (Oper.mk none (.store _ (.tmp 17) (.tmp 121)) _ _ _ _ :: _) _ _); refine wpList_store_last rfl (.tmp 17) (.tmp 121) rfl u3.heap.size rfl (by rfl) o2 oz (by rfl) ?_; have b_ : Below u3.heap.size u3 (u3.alloc (.cells o2.cells.toArray 56)) := (Below.refl _ _).alloc (Nat.le_refl _) _; have HZ4 := Lib.hid (⟨HZ3.out.1.below b_, HZ3.out.2.below b_⟩ : Onc w _ q A' cap' ps n gd kk os' ds ∧ StAt _ q9 q9 A9 cap9 ps9 os); clear b_; generalize u3.alloc (.cells o2.cells.toArray 56) = u4 at HZ4 ⊢; have cd : u4.cell? ⟨gd, j, none⟩ = some (.bool false) := bls_get HZ4.out.1.row HD.out; have fd : u4.frozen? ⟨gd, j, none⟩ = false := HZ4.out.1.row.frozen j; have cs : (u4.setCell ⟨gd, j, none⟩ (.bool false)).cell? ⟨gd, j, none⟩ = some (.bool false) := bls_get (bls_set HZ4.out.1.row j false) (List.getElem?_set_self HJD.out); have HZ5 := Lib.hid (⟨HZ4.out.1.put HGW.out HGN.out j false (fun _ _ h => nomatch h), st_put HZ4.out.2 HGD.out j (.bool false)⟩ : Onc w (u4.setCell ⟨gd, j, none⟩ (.bool false)) q A' cap' ps n gd kk os' (ds.set j false) ∧ StAt (u4.setCell ⟨gd, j, none⟩ (.bool false)) q9 q9 A9 cap9 ps9 os)))
                      go_roundw
                      case rel => exact ⟨j + 1, by omega, by go_num, ds.set j false, HZ5.out⟩
                      case measure => simp [intOf]; omega
                    | true =>
                      cases b2 with
                      | true =>
                        go_wp2_with (first
                          | ((with_reducible show wpList _ _ _ (Oper.mk (some 110) (.load _ _) _ _ _ _ :: _) _ _); refine wpList_yields (S := fun w' => KeyAt w' kb (ko + j * 6) y) (y_kyJ (by rfl) (.tmp 109) (by rfl) kb (ko + j * 6) (by rfl) y (fun _ h => h)) HY.out ?_)
                          | (go_at_call 18; clear M1; refine (named_b HZ.out.2 (by have := HOL.out; have := HN.out; omega) (HT.out.below HZ.out.1.bel) y HO1.out HB1.out).mono ?_; rintro e u1 ⟨rfl, b1⟩; have HZ1 := Lib.hid (⟨HZ.out.1.below b1, HZ.out.2.below b1⟩ : Onc w u1 q A' cap' ps n gd kk os' ds ∧ StAt u1 q9 q9 A9 cap9 ps9 os); have HY1 := Lib.hid (HY.out.keep b1); clear b1)
                          | ((with_reducible show wpList _ _ _ (Oper.mk none (.store _ (.tmp 15) (.tmp 112)) _ _ _ _ :: _) _ _); refine wpList_store_last rfl (.tmp 15) (.tmp 112) rfl u1.heap.size rfl (by rfl) o1 oz (by rfl) ?_; have b_ : Below u1.heap.size u1 (u1.alloc (.cells o1.cells.toArray 56)) := (Below.refl _ _).alloc (Nat.le_refl _) _; have HZ2 := Lib.hid (⟨HZ1.out.1.below b_, HZ1.out.2.below b_⟩ : Onc w _ q A' cap' ps n gd kk os' ds ∧ StAt _ q9 q9 A9 cap9 ps9 os); have HY2 := Lib.hid (HY1.out.keep b_); clear b_; generalize u1.alloc (.cells o1.cells.toArray 56) = u2 at HZ2 HY2 ⊢)
                          | ((with_reducible show wpList _ _ _ (Oper.mk (some 119) (.load _ _) _ _ _ _ :: _) _ _); refine wpList_yields (S := fun w' => KeyAt w' kb (ko + j * 6) y) (y_kyJ (by rfl) (.tmp 118) (by rfl) kb (ko + j * 6) (by rfl) y (fun _ h => h)) HY2.out ?_)
                          | (go_at_call 18; refine (named_b HZ2.out.1.st (by have := HZ2.out.1.len; have := HN.out; omega) (HT.out.below HZ2.out.1.bel) y HO2.out HB2.out).mono ?_; rintro e u3 ⟨rfl, b3⟩; have HZ3 := Lib.hid (⟨HZ2.out.1.below b3, HZ2.out.2.below b3⟩ : Onc w u3 q A' cap' ps n gd kk os' ds ∧ StAt u3 q9 q9 A9 cap9 ps9 os); clear b3)
                          | ((with_reducible show wpList _ _ _ (Oper.mk none (.store _ (.tmp 17) (.tmp 121)) _ _ _ _ :: _) _ _); refine wpList_store_last rfl (.tmp 17) (.tmp 121) rfl u3.heap.size rfl (by rfl) o2 oz (by rfl) ?_; have b_ : Below u3.heap.size u3 (u3.alloc (.cells o2.cells.toArray 56)) := (Below.refl _ _).alloc (Nat.le_refl _) _; have HZ4 := Lib.hid (⟨HZ3.out.1.below b_, HZ3.out.2.below b_⟩ : Onc w _ q A' cap' ps n gd kk os' ds ∧ StAt _ q9 q9 A9 cap9 ps9 os); clear b_; generalize u3.alloc (.cells o2.cells.toArray 56) = u4 at HZ4 ⊢; have cd : u4.cell? ⟨gd, j, none⟩ = some (.bool false) := bls_get HZ4.out.1.row HD.out; have fd : u4.frozen? ⟨gd, j, none⟩ = false := HZ4.out.1.row.frozen j; have cs : (u4.setCell ⟨gd, j, none⟩ (.bool false)).cell? ⟨gd, j, none⟩ = some (.bool false) := bls_get (bls_set HZ4.out.1.row j false) (List.getElem?_set_self HJD.out); have HZ5 := Lib.hid (⟨HZ4.out.1.put HGW.out HGN.out j false (fun _ _ h => nomatch h), st_put HZ4.out.2 HGD.out j (.bool false)⟩ : Onc w (u4.setCell ⟨gd, j, none⟩ (.bool false)) q A' cap' ps n gd kk os' (ds.set j false) ∧ StAt (u4.setCell ⟨gd, j, none⟩ (.bool false)) q9 q9 A9 cap9 ps9 os)))
                        go_roundw
                        case rel => exact ⟨j + 1, by omega, by go_num, ds.set j false, HZ5.out⟩
                        case measure => simp [intOf]; omega
                      | false =>
                        have hD : Dd os' y := dies HSY.out HB1.out HB2.out
                        have HDD := Lib.hid (show ∀ z, kk[j]? = some z → Dd os' z from fun z hz => by have e := HYK.out; rw [hz] at e; injection e with e; exact e ▸ hD)
                        go_wp2_with (first
                          | ((with_reducible show wpList _ _ _ (Oper.mk (some 110) (.load _ _) _ _ _ _ :: _) _ _); refine wpList_yields (S := fun w' => KeyAt w' kb (ko + j * 6) y) (y_kyJ (by rfl) (.tmp 109) (by rfl) kb (ko + j * 6) (by rfl) y (fun _ h => h)) HY.out ?_)
                          | (go_at_call 18; clear M1; refine (named_b HZ.out.2 (by have := HOL.out; have := HN.out; omega) (HT.out.below HZ.out.1.bel) y HO1.out HB1.out).mono ?_; rintro e u1 ⟨rfl, b1⟩; have HZ1 := Lib.hid (⟨HZ.out.1.below b1, HZ.out.2.below b1⟩ : Onc w u1 q A' cap' ps n gd kk os' ds ∧ StAt u1 q9 q9 A9 cap9 ps9 os); have HY1 := Lib.hid (HY.out.keep b1); clear b1)
                          | ((with_reducible show wpList _ _ _ (Oper.mk none (.store _ (.tmp 15) (.tmp 112)) _ _ _ _ :: _) _ _); refine wpList_store_last rfl (.tmp 15) (.tmp 112) rfl u1.heap.size rfl (by rfl) o1 oz (by rfl) ?_; have b_ : Below u1.heap.size u1 (u1.alloc (.cells o1.cells.toArray 56)) := (Below.refl _ _).alloc (Nat.le_refl _) _; have HZ2 := Lib.hid (⟨HZ1.out.1.below b_, HZ1.out.2.below b_⟩ : Onc w _ q A' cap' ps n gd kk os' ds ∧ StAt _ q9 q9 A9 cap9 ps9 os); have HY2 := Lib.hid (HY1.out.keep b_); clear b_; generalize u1.alloc (.cells o1.cells.toArray 56) = u2 at HZ2 HY2 ⊢)
                          | ((with_reducible show wpList _ _ _ (Oper.mk (some 119) (.load _ _) _ _ _ _ :: _) _ _); refine wpList_yields (S := fun w' => KeyAt w' kb (ko + j * 6) y) (y_kyJ (by rfl) (.tmp 118) (by rfl) kb (ko + j * 6) (by rfl) y (fun _ h => h)) HY2.out ?_)
                          | (go_at_call 18; refine (named_b HZ2.out.1.st (by have := HZ2.out.1.len; have := HN.out; omega) (HT.out.below HZ2.out.1.bel) y HO2.out HB2.out).mono ?_; rintro e u3 ⟨rfl, b3⟩; have HZ3 := Lib.hid (⟨HZ2.out.1.below b3, HZ2.out.2.below b3⟩ : Onc w u3 q A' cap' ps n gd kk os' ds ∧ StAt u3 q9 q9 A9 cap9 ps9 os); clear b3)
                          | ((with_reducible show wpList _ _ _ (Oper.mk none (.store _ (.tmp 17) (.tmp 121)) _ _ _ _ :: _) _ _); refine wpList_store_last rfl (.tmp 17) (.tmp 121) rfl u3.heap.size rfl (by rfl) o2 oz (by rfl) ?_; have b_ : Below u3.heap.size u3 (u3.alloc (.cells o2.cells.toArray 56)) := (Below.refl _ _).alloc (Nat.le_refl _) _; have HZ4 := Lib.hid (⟨HZ3.out.1.below b_, HZ3.out.2.below b_⟩ : Onc w _ q A' cap' ps n gd kk os' ds ∧ StAt _ q9 q9 A9 cap9 ps9 os); clear b_; generalize u3.alloc (.cells o2.cells.toArray 56) = u4 at HZ4 ⊢; have cd : u4.cell? ⟨gd, j, none⟩ = some (.bool false) := bls_get HZ4.out.1.row HD.out; have fd : u4.frozen? ⟨gd, j, none⟩ = false := HZ4.out.1.row.frozen j; have cs : (u4.setCell ⟨gd, j, none⟩ (.bool true)).cell? ⟨gd, j, none⟩ = some (.bool true) := bls_get (bls_set HZ4.out.1.row j true) (List.getElem?_set_self HJD.out); have HZ5 := Lib.hid (⟨HZ4.out.1.put HGW.out HGN.out j true (fun z hz _ => HDD.out z hz), st_put HZ4.out.2 HGD.out j (.bool true)⟩ : Onc w (u4.setCell ⟨gd, j, none⟩ (.bool true)) q A' cap' ps n gd kk os' (ds.set j true) ∧ StAt (u4.setCell ⟨gd, j, none⟩ (.bool true)) q9 q9 A9 cap9 ps9 os)))
                        go_roundw
                        case rel => exact ⟨j + 1, by omega, by go_num, ds.set j true, HZ5.out⟩
                        case measure => simp [intOf]; omega
                · obtain rfl : j = kk.length := by omega
                  have f0 : decide ((kk.length : Int) < (kk.length : Int)) = false := decide_eq_false (by omega)
                  have f1 : decide (kk.length < kk.length) = false := decide_eq_false (by omega)
                  go_wp2_with fail
                  go_roundw
                  case rel => exact ⟨k + 1, by omega, by go_num, os', ds, HZ.out.1⟩
                  case measure => simp [intOf]; omega
            · have g4 : (x.x.k == 7) = false := by simpa using h7
              go_wp2_with (first
                | ((with_reducible show wpList _ _ _ (Oper.mk (some 45) (.load _ _) _ _ _ _ :: _) _ _); refine wpList_yields (S := fun w' => JaAt w' b (off + k * 30) x) (y_ja (by rfl) (.tmp 44) (by rfl) b (off + k * 30) (by rfl) x (fun _ h => h)) HX.out ?_)
                | ((with_reducible show wpList _ _ _ (Oper.mk none (.store _ (.tmp 10) (.tmp 45)) _ _ _ _ :: _) _ _); refine wpList_store_new (l := x.cells) (l0 := zja.cells) (ty := 40) rfl (.tmp 10) (.tmp 45) (by rfl) wr.heap.size (by rfl) (by rfl) (by rfl) (by rw [Ja.len]; exact sizeJa) (by rw [Ja.len, Ja.len]) (Ja.one _) ?_; have HP1 := Lib.hid (HP.out.below ((Below.refl _ _).alloc (Nat.le_refl _) (.cells x.cells.toArray 40))); have HA1 := Lib.hid (Blk.new wr 40 x.cells.toArray); obtain ⟨ga, hga⟩ : ∃ ga, wr.heap.size = ga := ⟨_, rfl⟩; rw [hga] at HA1 ⊢; clear hga; generalize wr.alloc (.cells x.cells.toArray 40) = wa at HP1 HA1 ⊢; obtain ⟨c0, c1, c8, c9⟩ := HA1.out.ja4)
                | (go_at_call 13; refine (copy_at HP1.out.st (by have := HP1.out.len; have := HN.out; omega) (by have := HP1.out.len; have := HN1.out; omega)).mono ?_; rintro e w1 ⟨rfl, ⟨A9, cap9, ps9, hs9⟩, b1⟩; have HP2 := Lib.hid (HP1.out.below b1); have HS9 := Lib.hid hs9; have HA2 := Lib.hid (HA1.out.keep b1); have HGQ := Lib.hid (show ∀ k ∈ ps, k < wa.heap.size from fun k hk => (HP1.out.st.lt k (.inr (.inr hk))).2); have HGD := Lib.hid HP1.out.row.lt; obtain ⟨q9, hq9⟩ : ∃ q9, wa.heap.size = q9 := ⟨_, rfl⟩; rw [hq9] at HS9 HGQ HGD ⊢; clear b1 hs9 hq9 c0 c1 c8 c9; obtain ⟨c0, c1, c8, c9⟩ := HA2.out.ja4)
                | ((with_reducible show wpList _ _ _ (Oper.mk (some 55) (.load _ _) _ _ _ _ :: _) _ _); refine wpList_yields (S := fun w' => KeyAt w' ga 2 x.x) (y_kyJ (by rfl) (.tmp 54) (by rfl) ga 2 (by rfl) x.x (fun _ h => h)) HA2.out.jak ?_)
                | ((with_reducible show wpList _ _ _ (Oper.mk (some 59) (.load _ _) _ _ _ _ :: _) _ _); refine wpList_yields (S := fun w' => MgAt w' ga 10 x.m) (y_mg (by rfl) (.tmp 58) (by rfl) ga 10 (by rfl) x.m (fun _ h => h)) HA2.out.jam ?_)
                | (go_at_call 14; refine (inv_v HP2.out.st (HP2.out.len.symm ▸ HP2.out.ok) (by have := HP2.out.len; have := HN.out; omega) (by have := HP2.out.len; have := HN'.out; omega) (TabB.of HT.out HP2.out.bel HQ.out) x.i x.x x.md x.m HV.out).mono ?_; rintro e w2 ⟨rfl, hs2, hf2⟩; have HP3 := Lib.hid (HP2.out.step HQ.out hs2 hf2 HLL.out HOO.out HSY.out); have HS3 := Lib.hid (st_fr HS9.out hf2 HGQ.out); have HA3 := Lib.hid (HP2.out.st.blkF hf2 HA2.out (by decide)); clear hs2 hf2 c0 c1 c8 c9; obtain ⟨c0, c1, c8, c9⟩ := HA3.out.ja4)
                | (go_at_call 16; clear M0; refine (run_v HP3.out.st (by have := HP3.out.len; have := HN.out; omega) (by have := HP3.out.len; have := HN1.out; omega) HR1.out).mono ?_; rintro e w3 ⟨B3, e3, rfl, b3⟩; have HP4 := Lib.hid (HP3.out.below b3); have HS4 := Lib.hid (HS3.out.below b3); have HA4 := Lib.hid (HA3.out.keep b3); clear b3 c0 c1 c8 c9; obtain ⟨c0, c1, c8, c9⟩ := HA4.out.ja4)
                | (go_at_call 16; refine (run_v HS4.out (by have := HP.out.len; have := HN.out; omega) (by have := HP.out.len; have := HN1.out; omega) HR0.out).mono ?_; rintro e w4 ⟨B4, e4, rfl, b4⟩; have HP5 := Lib.hid (HP4.out.below b4); have HS5 := Lib.hid (HS4.out.below b4); have HA5 := Lib.hid (HA4.out.keep b4); clear b4 c0 c1 c8 c9; obtain ⟨c0, c1, c8, c9⟩ := HA5.out.ja4; have ck := HA5.out.jak.1))
              go_loopw [14, 15, 16, 17, 18] (fun q14 _ _ _ _ wk => ∃ j : Nat, j ≤ kk.length ∧ q14 = .int .i64 j ∧ ∃ ds, Onc w wk q A' cap' ps n gd kk os' ds ∧ StAt wk q9 q9 A9 cap9 ps9 os) (fun q14 _ _ _ _ _ => kk.length + 1 - (intOf q14).toNat)
              case atStart => exact ⟨0, by omega, rfl, ds, HP5.out, HS5.out⟩
              case round =>
                obtain ⟨j, hj, rfl, ds, hz1, hz2⟩ := hrel
                have HZ := Lib.hid (And.intro hz1 hz2)
                clear hz1 hz2
                by_cases hjl : j < kk.length
                · have f0 : decide ((j : Int) < (kk.length : Int)) = true := decide_eq_true (by omega)
                  have f1 : decide (j < kk.length) = true := decide_eq_true hjl
                  have f2 : (0 : Int) ≤ (j : Int) := by omega
                  have f3 : (j : Int) < (kk.length : Int) := by omega
                  obtain ⟨kb, ko, hA3, hky⟩ := HK.out j hjl
                  obtain ⟨y, hy⟩ : ∃ y, kk[j] = y := ⟨_, rfl⟩
                  rw [hy] at hky
                  have HY := Lib.hid (hky.keep HZ.out.1.bel)
                  have HYK := Lib.hid (show kk[j]? = some y by rw [List.getElem?_eq_getElem hjl, hy])
                  subst hA3
                  have HJD := Lib.hid (show j < ds.length by rw [HZ.out.1.dl]; exact hjl)
                  obtain ⟨d, hd⟩ : ∃ d, ds[j]? = some d := ⟨_, List.getElem?_eq_getElem HJD.out⟩
                  obtain ⟨o1, ho1⟩ : ∃ o1, (named os y).getD oz = o1 := ⟨_, rfl⟩
                  obtain ⟨o2, ho2⟩ : ∃ o2, (named os' y).getD oz = o2 := ⟨_, rfl⟩
                  obtain ⟨b1, hb1⟩ : ∃ b1, (named os y).isSome = b1 := ⟨_, rfl⟩
                  obtain ⟨b2, hb2⟩ : ∃ b2, (named os' y).isSome = b2 := ⟨_, rfl⟩
                  have HB1 := Lib.hid hb1
                  have HB2 := Lib.hid hb2
                  have HO1 := Lib.hid ho1
                  have HO2 := Lib.hid ho2
                  have HD := Lib.hid hd
                  have M1 := Lib.hid True.intro
                  clear hky hy hb1 hb2 ho1 ho2 hd
                  cases d with
                  | true =>
                    have hD : Dd os' y := HZ.out.1.dd j y HYK.out HD.out
                    have e2 : b2 = false := by rw [← HB2.out, hD.none]; rfl
                    subst e2
                    have HDD := Lib.hid (show ∀ z, kk[j]? = some z → Dd os' z from fun z hz => by have e := HYK.out; rw [hz] at e; injection e with e; exact e ▸ hD)
                    go_wp2_with (first
                      | ((with_reducible show wpList _ _ _ (Oper.mk (some 110) (.load _ _) _ _ _ _ :: _) _ _); refine wpList_yields (S := fun w' => KeyAt w' kb (ko + j * 6) y) (y_kyJ (by rfl) (.tmp 109) (by rfl) kb (ko + j * 6) (by rfl) y (fun _ h => h)) HY.out ?_)
                      | (go_at_call 18; clear M1; refine (named_b HZ.out.2 (by have := HOL.out; have := HN.out; omega) (HT.out.below HZ.out.1.bel) y HO1.out HB1.out).mono ?_; rintro e u1 ⟨rfl, b1⟩; have HZ1 := Lib.hid (⟨HZ.out.1.below b1, HZ.out.2.below b1⟩ : Onc w u1 q A' cap' ps n gd kk os' ds ∧ StAt u1 q9 q9 A9 cap9 ps9 os); have HY1 := Lib.hid (HY.out.keep b1); clear b1)
                      | ((with_reducible show wpList _ _ _ (Oper.mk none (.store _ (.tmp 15) (.tmp 112)) _ _ _ _ :: _) _ _); refine wpList_store_last rfl (.tmp 15) (.tmp 112) rfl u1.heap.size rfl (by rfl) o1 oz (by rfl) ?_; have b_ : Below u1.heap.size u1 (u1.alloc (.cells o1.cells.toArray 56)) := (Below.refl _ _).alloc (Nat.le_refl _) _; have HZ2 := Lib.hid (⟨HZ1.out.1.below b_, HZ1.out.2.below b_⟩ : Onc w _ q A' cap' ps n gd kk os' ds ∧ StAt _ q9 q9 A9 cap9 ps9 os); have HY2 := Lib.hid (HY1.out.keep b_); clear b_; generalize u1.alloc (.cells o1.cells.toArray 56) = u2 at HZ2 HY2 ⊢)
                      | ((with_reducible show wpList _ _ _ (Oper.mk (some 119) (.load _ _) _ _ _ _ :: _) _ _); refine wpList_yields (S := fun w' => KeyAt w' kb (ko + j * 6) y) (y_kyJ (by rfl) (.tmp 118) (by rfl) kb (ko + j * 6) (by rfl) y (fun _ h => h)) HY2.out ?_)
                      | (go_at_call 18; refine (named_b HZ2.out.1.st (by have := HZ2.out.1.len; have := HN.out; omega) (HT.out.below HZ2.out.1.bel) y HO2.out HB2.out).mono ?_; rintro e u3 ⟨rfl, b3⟩; have HZ3 := Lib.hid (⟨HZ2.out.1.below b3, HZ2.out.2.below b3⟩ : Onc w u3 q A' cap' ps n gd kk os' ds ∧ StAt u3 q9 q9 A9 cap9 ps9 os); clear b3)
                      | ((with_reducible show wpList _ _ _ (Oper.mk none (.store _ (.tmp 17) (.tmp 121)) _ _ _ _ :: _) _ _); refine wpList_store_last rfl (.tmp 17) (.tmp 121) rfl u3.heap.size rfl (by rfl) o2 oz (by rfl) ?_; have b_ : Below u3.heap.size u3 (u3.alloc (.cells o2.cells.toArray 56)) := (Below.refl _ _).alloc (Nat.le_refl _) _; have HZ4 := Lib.hid (⟨HZ3.out.1.below b_, HZ3.out.2.below b_⟩ : Onc w _ q A' cap' ps n gd kk os' ds ∧ StAt _ q9 q9 A9 cap9 ps9 os); clear b_; generalize u3.alloc (.cells o2.cells.toArray 56) = u4 at HZ4 ⊢; have cd : u4.cell? ⟨gd, j, none⟩ = some (.bool true) := bls_get HZ4.out.1.row HD.out; have fd : u4.frozen? ⟨gd, j, none⟩ = false := HZ4.out.1.row.frozen j; have cs : (u4.setCell ⟨gd, j, none⟩ (.bool true)).cell? ⟨gd, j, none⟩ = some (.bool true) := bls_get (bls_set HZ4.out.1.row j true) (List.getElem?_set_self HJD.out); have HZ5 := Lib.hid (⟨HZ4.out.1.put HGW.out HGN.out j true (fun z hz _ => HDD.out z hz), st_put HZ4.out.2 HGD.out j (.bool true)⟩ : Onc w (u4.setCell ⟨gd, j, none⟩ (.bool true)) q A' cap' ps n gd kk os' (ds.set j true) ∧ StAt (u4.setCell ⟨gd, j, none⟩ (.bool true)) q9 q9 A9 cap9 ps9 os)))
                    go_roundw
                    case rel => exact ⟨j + 1, by omega, by go_num, ds.set j true, HZ5.out⟩
                    case measure => simp [intOf]; omega
                  | false =>
                    cases b1 with
                    | false =>
                      go_wp2_with (first
                        | ((with_reducible show wpList _ _ _ (Oper.mk (some 110) (.load _ _) _ _ _ _ :: _) _ _); refine wpList_yields (S := fun w' => KeyAt w' kb (ko + j * 6) y) (y_kyJ (by rfl) (.tmp 109) (by rfl) kb (ko + j * 6) (by rfl) y (fun _ h => h)) HY.out ?_)
                        | (go_at_call 18; clear M1; refine (named_b HZ.out.2 (by have := HOL.out; have := HN.out; omega) (HT.out.below HZ.out.1.bel) y HO1.out HB1.out).mono ?_; rintro e u1 ⟨rfl, b1⟩; have HZ1 := Lib.hid (⟨HZ.out.1.below b1, HZ.out.2.below b1⟩ : Onc w u1 q A' cap' ps n gd kk os' ds ∧ StAt u1 q9 q9 A9 cap9 ps9 os); have HY1 := Lib.hid (HY.out.keep b1); clear b1)
                        | ((with_reducible show wpList _ _ _ (Oper.mk none (.store _ (.tmp 15) (.tmp 112)) _ _ _ _ :: _) _ _); refine wpList_store_last rfl (.tmp 15) (.tmp 112) rfl u1.heap.size rfl (by rfl) o1 oz (by rfl) ?_; have b_ : Below u1.heap.size u1 (u1.alloc (.cells o1.cells.toArray 56)) := (Below.refl _ _).alloc (Nat.le_refl _) _; have HZ2 := Lib.hid (⟨HZ1.out.1.below b_, HZ1.out.2.below b_⟩ : Onc w _ q A' cap' ps n gd kk os' ds ∧ StAt _ q9 q9 A9 cap9 ps9 os); have HY2 := Lib.hid (HY1.out.keep b_); clear b_; generalize u1.alloc (.cells o1.cells.toArray 56) = u2 at HZ2 HY2 ⊢)
                        | ((with_reducible show wpList _ _ _ (Oper.mk (some 119) (.load _ _) _ _ _ _ :: _) _ _); refine wpList_yields (S := fun w' => KeyAt w' kb (ko + j * 6) y) (y_kyJ (by rfl) (.tmp 118) (by rfl) kb (ko + j * 6) (by rfl) y (fun _ h => h)) HY2.out ?_)
                        | (go_at_call 18; refine (named_b HZ2.out.1.st (by have := HZ2.out.1.len; have := HN.out; omega) (HT.out.below HZ2.out.1.bel) y HO2.out HB2.out).mono ?_; rintro e u3 ⟨rfl, b3⟩; have HZ3 := Lib.hid (⟨HZ2.out.1.below b3, HZ2.out.2.below b3⟩ : Onc w u3 q A' cap' ps n gd kk os' ds ∧ StAt u3 q9 q9 A9 cap9 ps9 os); clear b3)
                        | ((with_reducible show wpList _ _ _ (Oper.mk none (.store _ (.tmp 17) (.tmp 121)) _ _ _ _ :: _) _ _); refine wpList_store_last rfl (.tmp 17) (.tmp 121) rfl u3.heap.size rfl (by rfl) o2 oz (by rfl) ?_; have b_ : Below u3.heap.size u3 (u3.alloc (.cells o2.cells.toArray 56)) := (Below.refl _ _).alloc (Nat.le_refl _) _; have HZ4 := Lib.hid (⟨HZ3.out.1.below b_, HZ3.out.2.below b_⟩ : Onc w _ q A' cap' ps n gd kk os' ds ∧ StAt _ q9 q9 A9 cap9 ps9 os); clear b_; generalize u3.alloc (.cells o2.cells.toArray 56) = u4 at HZ4 ⊢; have cd : u4.cell? ⟨gd, j, none⟩ = some (.bool false) := bls_get HZ4.out.1.row HD.out; have fd : u4.frozen? ⟨gd, j, none⟩ = false := HZ4.out.1.row.frozen j; have cs : (u4.setCell ⟨gd, j, none⟩ (.bool false)).cell? ⟨gd, j, none⟩ = some (.bool false) := bls_get (bls_set HZ4.out.1.row j false) (List.getElem?_set_self HJD.out); have HZ5 := Lib.hid (⟨HZ4.out.1.put HGW.out HGN.out j false (fun _ _ h => nomatch h), st_put HZ4.out.2 HGD.out j (.bool false)⟩ : Onc w (u4.setCell ⟨gd, j, none⟩ (.bool false)) q A' cap' ps n gd kk os' (ds.set j false) ∧ StAt (u4.setCell ⟨gd, j, none⟩ (.bool false)) q9 q9 A9 cap9 ps9 os)))
                      go_roundw
                      case rel => exact ⟨j + 1, by omega, by go_num, ds.set j false, HZ5.out⟩
                      case measure => simp [intOf]; omega
                    | true =>
                      cases b2 with
                      | true =>
                        go_wp2_with (first
                          | ((with_reducible show wpList _ _ _ (Oper.mk (some 110) (.load _ _) _ _ _ _ :: _) _ _); refine wpList_yields (S := fun w' => KeyAt w' kb (ko + j * 6) y) (y_kyJ (by rfl) (.tmp 109) (by rfl) kb (ko + j * 6) (by rfl) y (fun _ h => h)) HY.out ?_)
                          | (go_at_call 18; clear M1; refine (named_b HZ.out.2 (by have := HOL.out; have := HN.out; omega) (HT.out.below HZ.out.1.bel) y HO1.out HB1.out).mono ?_; rintro e u1 ⟨rfl, b1⟩; have HZ1 := Lib.hid (⟨HZ.out.1.below b1, HZ.out.2.below b1⟩ : Onc w u1 q A' cap' ps n gd kk os' ds ∧ StAt u1 q9 q9 A9 cap9 ps9 os); have HY1 := Lib.hid (HY.out.keep b1); clear b1)
                          | ((with_reducible show wpList _ _ _ (Oper.mk none (.store _ (.tmp 15) (.tmp 112)) _ _ _ _ :: _) _ _); refine wpList_store_last rfl (.tmp 15) (.tmp 112) rfl u1.heap.size rfl (by rfl) o1 oz (by rfl) ?_; have b_ : Below u1.heap.size u1 (u1.alloc (.cells o1.cells.toArray 56)) := (Below.refl _ _).alloc (Nat.le_refl _) _; have HZ2 := Lib.hid (⟨HZ1.out.1.below b_, HZ1.out.2.below b_⟩ : Onc w _ q A' cap' ps n gd kk os' ds ∧ StAt _ q9 q9 A9 cap9 ps9 os); have HY2 := Lib.hid (HY1.out.keep b_); clear b_; generalize u1.alloc (.cells o1.cells.toArray 56) = u2 at HZ2 HY2 ⊢)
                          | ((with_reducible show wpList _ _ _ (Oper.mk (some 119) (.load _ _) _ _ _ _ :: _) _ _); refine wpList_yields (S := fun w' => KeyAt w' kb (ko + j * 6) y) (y_kyJ (by rfl) (.tmp 118) (by rfl) kb (ko + j * 6) (by rfl) y (fun _ h => h)) HY2.out ?_)
                          | (go_at_call 18; refine (named_b HZ2.out.1.st (by have := HZ2.out.1.len; have := HN.out; omega) (HT.out.below HZ2.out.1.bel) y HO2.out HB2.out).mono ?_; rintro e u3 ⟨rfl, b3⟩; have HZ3 := Lib.hid (⟨HZ2.out.1.below b3, HZ2.out.2.below b3⟩ : Onc w u3 q A' cap' ps n gd kk os' ds ∧ StAt u3 q9 q9 A9 cap9 ps9 os); clear b3)
                          | ((with_reducible show wpList _ _ _ (Oper.mk none (.store _ (.tmp 17) (.tmp 121)) _ _ _ _ :: _) _ _); refine wpList_store_last rfl (.tmp 17) (.tmp 121) rfl u3.heap.size rfl (by rfl) o2 oz (by rfl) ?_; have b_ : Below u3.heap.size u3 (u3.alloc (.cells o2.cells.toArray 56)) := (Below.refl _ _).alloc (Nat.le_refl _) _; have HZ4 := Lib.hid (⟨HZ3.out.1.below b_, HZ3.out.2.below b_⟩ : Onc w _ q A' cap' ps n gd kk os' ds ∧ StAt _ q9 q9 A9 cap9 ps9 os); clear b_; generalize u3.alloc (.cells o2.cells.toArray 56) = u4 at HZ4 ⊢; have cd : u4.cell? ⟨gd, j, none⟩ = some (.bool false) := bls_get HZ4.out.1.row HD.out; have fd : u4.frozen? ⟨gd, j, none⟩ = false := HZ4.out.1.row.frozen j; have cs : (u4.setCell ⟨gd, j, none⟩ (.bool false)).cell? ⟨gd, j, none⟩ = some (.bool false) := bls_get (bls_set HZ4.out.1.row j false) (List.getElem?_set_self HJD.out); have HZ5 := Lib.hid (⟨HZ4.out.1.put HGW.out HGN.out j false (fun _ _ h => nomatch h), st_put HZ4.out.2 HGD.out j (.bool false)⟩ : Onc w (u4.setCell ⟨gd, j, none⟩ (.bool false)) q A' cap' ps n gd kk os' (ds.set j false) ∧ StAt (u4.setCell ⟨gd, j, none⟩ (.bool false)) q9 q9 A9 cap9 ps9 os)))
                        go_roundw
                        case rel => exact ⟨j + 1, by omega, by go_num, ds.set j false, HZ5.out⟩
                        case measure => simp [intOf]; omega
                      | false =>
                        have hD : Dd os' y := dies HSY.out HB1.out HB2.out
                        have HDD := Lib.hid (show ∀ z, kk[j]? = some z → Dd os' z from fun z hz => by have e := HYK.out; rw [hz] at e; injection e with e; exact e ▸ hD)
                        go_wp2_with (first
                          | ((with_reducible show wpList _ _ _ (Oper.mk (some 110) (.load _ _) _ _ _ _ :: _) _ _); refine wpList_yields (S := fun w' => KeyAt w' kb (ko + j * 6) y) (y_kyJ (by rfl) (.tmp 109) (by rfl) kb (ko + j * 6) (by rfl) y (fun _ h => h)) HY.out ?_)
                          | (go_at_call 18; clear M1; refine (named_b HZ.out.2 (by have := HOL.out; have := HN.out; omega) (HT.out.below HZ.out.1.bel) y HO1.out HB1.out).mono ?_; rintro e u1 ⟨rfl, b1⟩; have HZ1 := Lib.hid (⟨HZ.out.1.below b1, HZ.out.2.below b1⟩ : Onc w u1 q A' cap' ps n gd kk os' ds ∧ StAt u1 q9 q9 A9 cap9 ps9 os); have HY1 := Lib.hid (HY.out.keep b1); clear b1)
                          | ((with_reducible show wpList _ _ _ (Oper.mk none (.store _ (.tmp 15) (.tmp 112)) _ _ _ _ :: _) _ _); refine wpList_store_last rfl (.tmp 15) (.tmp 112) rfl u1.heap.size rfl (by rfl) o1 oz (by rfl) ?_; have b_ : Below u1.heap.size u1 (u1.alloc (.cells o1.cells.toArray 56)) := (Below.refl _ _).alloc (Nat.le_refl _) _; have HZ2 := Lib.hid (⟨HZ1.out.1.below b_, HZ1.out.2.below b_⟩ : Onc w _ q A' cap' ps n gd kk os' ds ∧ StAt _ q9 q9 A9 cap9 ps9 os); have HY2 := Lib.hid (HY1.out.keep b_); clear b_; generalize u1.alloc (.cells o1.cells.toArray 56) = u2 at HZ2 HY2 ⊢)
                          | ((with_reducible show wpList _ _ _ (Oper.mk (some 119) (.load _ _) _ _ _ _ :: _) _ _); refine wpList_yields (S := fun w' => KeyAt w' kb (ko + j * 6) y) (y_kyJ (by rfl) (.tmp 118) (by rfl) kb (ko + j * 6) (by rfl) y (fun _ h => h)) HY2.out ?_)
                          | (go_at_call 18; refine (named_b HZ2.out.1.st (by have := HZ2.out.1.len; have := HN.out; omega) (HT.out.below HZ2.out.1.bel) y HO2.out HB2.out).mono ?_; rintro e u3 ⟨rfl, b3⟩; have HZ3 := Lib.hid (⟨HZ2.out.1.below b3, HZ2.out.2.below b3⟩ : Onc w u3 q A' cap' ps n gd kk os' ds ∧ StAt u3 q9 q9 A9 cap9 ps9 os); clear b3)
                          | ((with_reducible show wpList _ _ _ (Oper.mk none (.store _ (.tmp 17) (.tmp 121)) _ _ _ _ :: _) _ _); refine wpList_store_last rfl (.tmp 17) (.tmp 121) rfl u3.heap.size rfl (by rfl) o2 oz (by rfl) ?_; have b_ : Below u3.heap.size u3 (u3.alloc (.cells o2.cells.toArray 56)) := (Below.refl _ _).alloc (Nat.le_refl _) _; have HZ4 := Lib.hid (⟨HZ3.out.1.below b_, HZ3.out.2.below b_⟩ : Onc w _ q A' cap' ps n gd kk os' ds ∧ StAt _ q9 q9 A9 cap9 ps9 os); clear b_; generalize u3.alloc (.cells o2.cells.toArray 56) = u4 at HZ4 ⊢; have cd : u4.cell? ⟨gd, j, none⟩ = some (.bool false) := bls_get HZ4.out.1.row HD.out; have fd : u4.frozen? ⟨gd, j, none⟩ = false := HZ4.out.1.row.frozen j; have cs : (u4.setCell ⟨gd, j, none⟩ (.bool true)).cell? ⟨gd, j, none⟩ = some (.bool true) := bls_get (bls_set HZ4.out.1.row j true) (List.getElem?_set_self HJD.out); have HZ5 := Lib.hid (⟨HZ4.out.1.put HGW.out HGN.out j true (fun z hz _ => HDD.out z hz), st_put HZ4.out.2 HGD.out j (.bool true)⟩ : Onc w (u4.setCell ⟨gd, j, none⟩ (.bool true)) q A' cap' ps n gd kk os' (ds.set j true) ∧ StAt (u4.setCell ⟨gd, j, none⟩ (.bool true)) q9 q9 A9 cap9 ps9 os)))
                        go_roundw
                        case rel => exact ⟨j + 1, by omega, by go_num, ds.set j true, HZ5.out⟩
                        case measure => simp [intOf]; omega
                · obtain rfl : j = kk.length := by omega
                  have f0 : decide ((kk.length : Int) < (kk.length : Int)) = false := decide_eq_false (by omega)
                  have f1 : decide (kk.length < kk.length) = false := decide_eq_false (by omega)
                  go_wp2_with fail
                  go_roundw
                  case rel => exact ⟨k + 1, by omega, by go_num, os', ds, HZ.out.1⟩
                  case measure => simp [intOf]; omega
        · have g1 : (v != 0) = true := by simpa using hv0
          have hos : os' = os := by have := invA_bad (os := os) (i := x.i) (x := x.x) (md := x.md) (m := x.m) (by rw [hv]; exact hv0); rw [hv] at this; exact this
          subst hos
          have HSY := Lib.hid (Stay.refl os')
          clear hv hv0 hoo
          go_wp2_with (first
            | ((with_reducible show wpList _ _ _ (Oper.mk (some 45) (.load _ _) _ _ _ _ :: _) _ _); refine wpList_yields (S := fun w' => JaAt w' b (off + k * 30) x) (y_ja (by rfl) (.tmp 44) (by rfl) b (off + k * 30) (by rfl) x (fun _ h => h)) HX.out ?_)
            | ((with_reducible show wpList _ _ _ (Oper.mk none (.store _ (.tmp 10) (.tmp 45)) _ _ _ _ :: _) _ _); refine wpList_store_new (l := x.cells) (l0 := zja.cells) (ty := 40) rfl (.tmp 10) (.tmp 45) (by rfl) wr.heap.size (by rfl) (by rfl) (by rfl) (by rw [Ja.len]; exact sizeJa) (by rw [Ja.len, Ja.len]) (Ja.one _) ?_; have HP1 := Lib.hid (HP.out.below ((Below.refl _ _).alloc (Nat.le_refl _) (.cells x.cells.toArray 40))); have HA1 := Lib.hid (Blk.new wr 40 x.cells.toArray); obtain ⟨ga, hga⟩ : ∃ ga, wr.heap.size = ga := ⟨_, rfl⟩; rw [hga] at HA1 ⊢; clear hga; generalize wr.alloc (.cells x.cells.toArray 40) = wa at HP1 HA1 ⊢; obtain ⟨c0, c1, c8, c9⟩ := HA1.out.ja4)
            | (go_at_call 13; refine (copy_at HP1.out.st (by have := HP1.out.len; have := HN.out; omega) (by have := HP1.out.len; have := HN1.out; omega)).mono ?_; rintro e w1 ⟨rfl, ⟨A9, cap9, ps9, hs9⟩, b1⟩; have HP2 := Lib.hid (HP1.out.below b1); have HS9 := Lib.hid hs9; have HA2 := Lib.hid (HA1.out.keep b1); have HGQ := Lib.hid (show ∀ k ∈ ps, k < wa.heap.size from fun k hk => (HP1.out.st.lt k (.inr (.inr hk))).2); have HGD := Lib.hid HP1.out.row.lt; obtain ⟨q9, hq9⟩ : ∃ q9, wa.heap.size = q9 := ⟨_, rfl⟩; rw [hq9] at HS9 HGQ HGD ⊢; clear b1 hs9 hq9 c0 c1 c8 c9; obtain ⟨c0, c1, c8, c9⟩ := HA2.out.ja4)
            | ((with_reducible show wpList _ _ _ (Oper.mk (some 55) (.load _ _) _ _ _ _ :: _) _ _); refine wpList_yields (S := fun w' => KeyAt w' ga 2 x.x) (y_kyJ (by rfl) (.tmp 54) (by rfl) ga 2 (by rfl) x.x (fun _ h => h)) HA2.out.jak ?_)
            | ((with_reducible show wpList _ _ _ (Oper.mk (some 59) (.load _ _) _ _ _ _ :: _) _ _); refine wpList_yields (S := fun w' => MgAt w' ga 10 x.m) (y_mg (by rfl) (.tmp 58) (by rfl) ga 10 (by rfl) x.m (fun _ h => h)) HA2.out.jam ?_)
            | (go_at_call 14; refine (inv_v HP2.out.st (HP2.out.len.symm ▸ HP2.out.ok) (by have := HP2.out.len; have := HN.out; omega) (by have := HP2.out.len; have := HN'.out; omega) (TabB.of HT.out HP2.out.bel HQ.out) x.i x.x x.md x.m HV.out).mono ?_; rintro e w2 ⟨rfl, hs2, hf2⟩; have HP3 := Lib.hid (HP2.out.step HQ.out hs2 hf2 HLL.out HOO.out HSY.out); have HS3 := Lib.hid (st_fr HS9.out hf2 HGQ.out); have HA3 := Lib.hid (HP2.out.st.blkF hf2 HA2.out (by decide)); clear hs2 hf2 c0 c1 c8 c9; obtain ⟨c0, c1, c8, c9⟩ := HA3.out.ja4)
            | (go_at_call 15; refine (same_st HP3.out.st HS3.out (by have := HP3.out.len; have := HN.out; omega) (by have := HP3.out.len; have := HN.out; omega) (by have := HP3.out.len; have := HN1.out; omega)).mono ?_; rintro e w3 ⟨rfl, b3⟩; have HP4 := Lib.hid (HP3.out.below b3); clear b3; have dss : decide (os' = os') = true := decide_eq_true rfl))
          go_roundw
          case rel => exact ⟨k + 1, by omega, by go_num, _, _, HP4.out⟩
          case measure => simp [intOf]; omega
      · have g0 : (x.k != 1) = true := by simpa using hxk
        go_wp2_with (first
          | ((with_reducible show wpList _ _ _ (Oper.mk (some 45) (.load _ _) _ _ _ _ :: _) _ _); refine wpList_yields (S := fun w' => JaAt w' b (off + k * 30) x) (y_ja (by rfl) (.tmp 44) (by rfl) b (off + k * 30) (by rfl) x (fun _ h => h)) HX.out ?_)
          | ((with_reducible show wpList _ _ _ (Oper.mk none (.store _ (.tmp 10) (.tmp 45)) _ _ _ _ :: _) _ _); refine wpList_store_new (l := x.cells) (l0 := zja.cells) (ty := 40) rfl (.tmp 10) (.tmp 45) (by rfl) wr.heap.size (by rfl) (by rfl) (by rfl) (by rw [Ja.len]; exact sizeJa) (by rw [Ja.len, Ja.len]) (Ja.one _) ?_; have HP1 := Lib.hid (HP.out.below ((Below.refl _ _).alloc (Nat.le_refl _) (.cells x.cells.toArray 40))); have HA1 := Lib.hid (Blk.new wr 40 x.cells.toArray); obtain ⟨ga, hga⟩ : ∃ ga, wr.heap.size = ga := ⟨_, rfl⟩; rw [hga] at HA1 ⊢; clear hga; generalize wr.alloc (.cells x.cells.toArray 40) = wa at HP1 HA1 ⊢; obtain ⟨c0, c1, c8, c9⟩ := HA1.out.ja4))
        go_roundw
        case rel => exact ⟨k + 1, by omega, by go_num, _, _, HP1.out⟩
        case measure => simp [intOf]; omega
    · obtain rfl : k = aa.length := by omega
      have e0 : decide ((aa.length : Int) < (aa.length : Int)) = false := decide_eq_false (by omega)
      have e1 : decide (aa.length < aa.length) = false := decide_eq_false (by omega)
      go_wp2_with (first
        | (go_at_call 9; refine (known_any _ (HT.out.below HP.out.bel)).mono ?_; rintro e v9 ⟨rfl, b_⟩; have B9 := Lib.hid ((HP.out.bel).trans (b_.mono (HP.out.bel).size)); clear b_))
      go_ret
      exact ⟨rfl, B9.out⟩
set_option maxRecDepth 8000 in
theorem walk (w : World) (hL : laidMetH Tryd.prog laidK w) (A : Option Addr) (l : List Oj) (cap : Nat) (hr : RdO w A l) (A2 : Option Addr) (aa : List Ja) (cap2 : Nat) (hra : RdJ w A2 aa) (A3 : Option Addr) (kk : List Ky) (cap3 : Nat) (hrk : RdK w A3 kk) : Calls Tryd.prog 5 #[.slice A l.length cap, .slice A2 aa.length cap2, .slice A3 kk.length cap3] w fun e w' => e = .returned (.bool true) ∧ Below w.heap.size w w' := by
  by_cases h : madeP l
  · by_cases hl : fewJ aa
    · by_cases hk : kk.length ≤ 20
      · exact walk_ok w (tab_of hL) A l cap A2 aa cap2 A3 kk cap3 hr hra hrk h hl hk
      · exact walk_many w (tab_of hL) A l cap A2 aa cap2 A3 kk cap3 hr hra h hl (by omega)
    · exact walk_big w (tab_of hL) A l cap A2 aa cap2 A3 kk cap3 hr hra h hl
  · exact walk_no w (tab_of hL) A l cap A2 aa cap2 A3 kk cap3 hr h
set_option maxRecDepth 100000 in
theorem lifted (os : Os) (started : os.Started) (H : Type) (enc : TypeId × Value → H) :
    ReturnsInHanded {} Tryd.checked os 5 .any (fun w args => (Rows.procsOnceSpec.pre enc Tryd.prog Tryd.f5 [] false w args ∧ laidMetH Tryd.prog laidK w) ∧ sizedMet enc Tryd.prog Tryd.f5 (OpenSpec.ofChange Rows.procsOnceSpec) false w args) (Rows.procsOnceSpec.post enc Tryd.prog Tryd.f5 false true false false) := by
  refine returnsInHanded_of_change_and (C := Tryd.checked) (X := fun w _ => laidMetH Tryd.prog laidK w) (fun _ _ _ hh h => h.of_heap hh) own started (by kernel_rfl) Tryd.func5
    (ChangeSpec.witness_shaped (enc := enc) (C := Tryd.checked) (os := os) (X := fun w _ => laidMetH Tryd.prog laidK w) false (World.doorLaid Tryd.prog 40 os) #[.slice none 0 0, .slice none 0 0, .slice none 0 0] 8 rfl (World.shaped_of_RefB (by kernel_rfl) (by kernel_rfl)) (by kernel_rfl) (by kernel_rfl) (by kernel_rfl) (door_met os _)) ?_
  intro W base args ds gs before hval0 hW _ _ hL _
  have hval : ∀ (j : Nat) t v, Tryd.f5.params[j]? = some t → args[j]? = some v → Value.okWide Tryd.prog W .any base t v := hval0
  have hW' := hW
  obtain ⟨p, q, hA0, hV, rfl, hfz, hnd⟩ := hW
  have hA : DataW.TrodAll enc Tryd.prog W 0 (fun _ => true) true Tryd.f5.params.toList args.toList ds p := hA0
  rw [Tryd.params5] at hA hval
  obtain ⟨v0, vs0, d0, ds0, p0, q0, hargs, rfl, rfl, h0, t0⟩ := trodAll_cons hA
  obtain ⟨v1, vs1, d1, ds1, p1, q1, rfl, rfl, rfl, h1, t1⟩ := trodAll_cons t0
  obtain ⟨v2, vs2, d2, ds2, p2, q2, rfl, rfl, rfl, h2, t2⟩ := trodAll_cons t1
  obtain ⟨rfl, rfl, rfl⟩ := trodAll_nil t2
  obtain rfl : args = #[v0, v1, v2] := by cases args; simp_all
  obtain ⟨rfl, rfl⟩ := trodVars_none hV
  have k0 := h0
  have lt0 : ∀ x ∈ p0, x.block < W.heap.size := by obtain ⟨m, hm⟩ := k0; exact DataW.trod_lt m _ _ _ hm
  obtain ⟨A0, l0, c0, rfl, hlc0, hcm0, hr0⟩ := open_obs (hval 0 22 v0 rfl rfl) h0
  have k1 := h1
  have lt1 : ∀ x ∈ p1, x.block < W.heap.size := by obtain ⟨m, hm⟩ := k1; exact DataW.trod_lt m _ _ _ hm
  obtain ⟨A1, l1, c1, rfl, hlc1, hcm1, hr1⟩ := open_jas (hval 1 23 v1 rfl rfl) h1
  have k2 := h2
  have lt2 : ∀ x ∈ p2, x.block < W.heap.size := by obtain ⟨m, hm⟩ := k2; exact DataW.trod_lt m _ _ _ hm
  obtain ⟨A2, l2, c2, rfl, hlc2, hcm2, hr2⟩ := open_keys (hval 2 43 v2 rfl rfl) h2
  clear hA0 hval0
  refine (walk W hL A0 l0 c0 hr0 A1 l1 c1 hr1 A2 l2 c2 hr2).mono fun e W' ⟨he, bel⟩ => ?_
  subst he
  exact ⟨_, rfl, _, _, _, [], _, [], hW', trodAll_mk1 (shut_bool Tryd.underlying4 _), (trodAll_cons_mk (Below.trod laidOut (by kernel_rfl) (of_decide_eq_true (by kernel_rfl)) k0 bel lt0) (trodAll_cons_mk (Below.trod laidOut (by kernel_rfl) (of_decide_eq_true (by kernel_rfl)) k1 bel lt1) (trodAll_cons_mk (Below.trod laidOut (by kernel_rfl) (of_decide_eq_true (by kernel_rfl)) k2 bel lt2) trodAll_mk0))), rfl, bel.frame _, fun h => by cases h⟩
theorem over : Rows.procsOnceRow.holds Tryd.pinned (OpenSpec.ofChange Rows.procsOnceSpec) :=
  OpenClaim.holds_of_wide 5 Tryd.f5 rfl rfl rfl rfl rfl rfl rfl ⟨rfl, rfl, rfl, rfl, rfl⟩ rfl rfl rfl rfl rfl (by kernel_rfl) Tryd.func5 (by kernel_rfl)
    (of_decide_eq_true (by kernel_rfl)) (by unfold Func.isWrapper; first | (rw [if_pos (by decide +kernel)]; kernel_rfl) | (rw [if_neg (by decide +kernel)]; exact ⟨rfl, rfl⟩))
    (fun os started H enc _ => lifted os started H enc)
set_option maxRecDepth 8000 in
theorem proved : Rows.ProcsOnceCardSaid :=
  Claim7.holds_tied_plain_at .later [] [.data] true Rows.procsOnceCard.stood.harness true
    over (fun _ h => by cases h) (by kernel_rfl) (fun _ h => by cases h) procsOnce_row_tie rfl ⟨rfl, rfl⟩ (by kernel_rfl) rfl
    (fun f fn hf hfn => by
      obtain rfl : f = 5 := Option.some.inj ((show Tryd.prog.funcNamed "chatelaine/chatelainelaw13.ProcsOnce" = some 5 by kernel_rfl).symm.trans hf) |>.symm
      obtain rfl : fn = Tryd.f5 := (Option.some.inj (Tryd.func5.symm.trans hfn)).symm
      exact ⟨by kernel_rfl, fun j t ht => by
        rw [Tryd.params5] at ht
        have hm : t ∈ [22, 23, 43] := by simpa using Array.mem_of_getElem? ht
        have hall : ([22, 23, 43].all fun u => !Tryd.prog.wantsStandIn u) = true := by kernel_rfl
        exact (show Tryd.prog.wantsStandIn t = false by simpa using List.all_eq_true.1 hall t hm)⟩)
    (by kernel_rfl)
end Go.Proofs.YtljfddeolapeaaaDoor.procsOnce

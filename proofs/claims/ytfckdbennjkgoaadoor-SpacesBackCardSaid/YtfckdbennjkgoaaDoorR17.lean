/- The document's answers: Asked, Got, May, Put of a list. -/
import Derived.Test.YtfckdbennjkgoaaDoorR16
import Derived.Test.YtfckdbennjkgoaaDoorR14
import Derived.Test.YtfckdbennjkgoaaDoorR12
import Derived.Deep.AppendLies
namespace Go.Proofs.YtfckdbennjkgoaaDoor
open Go.RowKit
set_option maxRecDepth 8000 in
theorem row_cut {L : List Value} {l : List Oj} (h : L.take (l.length * 163) = ocs l) (j : Nat) (hj : j < l.length) (o : Oj) :
    (L.take (j * 163) ++ o.cells ++ L.drop (j * 163 + o.cells.length)).take ((l.set j o).length * 163) = ocs (l.set j o) := by
  have hs := ocs_set l j hj o
  have hn := ocs_length l
  have hle : j * 163 + 163 ≤ (ocs l).length := by rw [hn]; omega
  obtain ⟨Y, rfl⟩ : ∃ Y, L = ocs l ++ Y := ⟨L.drop (l.length * 163), by rw [← h, List.take_append_drop]⟩
  have e1 : (ocs l ++ Y).take (j * 163) = (ocs l).take (j * 163) := List.take_append_of_le_length (by omega)
  have e2 : (ocs l ++ Y).drop (j * 163 + 163) = (ocs l).drop (j * 163 + 163) ++ Y := List.drop_append_of_le_length hle
  have hq : (ocs (l.set j o)).length = l.length * 163 := by rw [ocs_length, List.length_set]
  rw [List.length_set, o.len, e1, e2, ← List.append_assoc, hs, List.take_append_of_le_length (by omega), List.take_of_length_le (by omega)]
set_option maxRecDepth 8000 in
theorem row_rdo {w : World} {g : Nat} {t : TypeId} {L : List Value} {l : List Oj} (h : Blk w g t L.toArray) (hl : L.take (l.length * 163) = ocs l) : RdO w (some ⟨g, 0, none⟩) l := fun i hi => by
  refine ⟨g, 0, rfl, fun j v hv => ?_⟩
  have hj : j < 163 := by have := (List.getElem?_eq_some_iff.1 hv).1; rwa [Oj.len] at this
  have h1 := ocs_get l i hi j hj
  rw [← hl, List.getElem?_take, if_pos (show i * 163 + j < l.length * 163 by omega)] at h1
  rw [Nat.zero_add, h.cell, ← hv, ← h1]
  simp
section
variable {ops : Array Oper} {rest : List Oper} {o : Oper} {a : Act} {Q : Exit → Act → World → Prop} {W : World}
theorem ocs_one : ∀ (l : List Oj), ∀ u ∈ ocs l, u.oneCell' = true
  | [], u, hu => by cases hu
  | x :: l, u, hu => by
    rcases List.mem_append.1 hu with h | h
    · exact x.one u h
    · exact ocs_one l u h
set_option maxRecDepth 8000 in
theorem wpList_append_obs (hgd : o.guard = none) (x : Operand) (ho : o.op = .call { callee := .builtin .append, args := #[.const (.slice none 0 0), x], argTypes := #[22, 22] })
    {A : Option Addr} {n c : Nat} {l : List Oj} (hx : a.eval x = .slice A n c) (hr : RdO W A l) (hn : l.length = n) (h1 : 0 < n) (h64 : n ≤ 1000)
    (h : ∀ (g c' : Nat) (w' : World) (L : List Value), Blk w' g 52 L.toArray → L.take (l.length * 163) = ocs l → l.length * 163 ≤ L.length → n ≤ c' → W.heap.size ≤ g → Below W.heap.size W w' → wpList Tryd.prog ops Q rest (a.put o.dst (.slice (some ⟨g, 0, none⟩) n c')) w') : wpList Tryd.prog ops Q (o :: rest) a W := by
  obtain ⟨i0, hi, hz0, hz1, hz2⟩ := info_parts infoOb
  obtain ⟨b, off, rfl, _⟩ := hr 0 (by omega)
  have hown : W.ownsRow W.heap.size 52 163 (.slice none 0 0) 0 [] := ⟨rfl, .inl ⟨rfl, rfl⟩⟩
  refine wpList_append_lies _ hgd (.const (.slice none 0 0)) x 22 ho W.heap.size 52 i0 oz.val 163 856 Tryd.underlying22 hi hz0 hz1 hz2 (by show oz.cells.toArray.size = 163; rw [List.size_toArray, oz.len]) (by decide) (.slice none 0 0) 0 [] rfl hown ⟨b, off, none⟩ n c (ocs l) hx (by rw [ocs_length, hn]) ?_ (ocs_one l) h1 (by simp only [maxLen]; omega) (by omega) (Nat.le_refl _) _ rfl ?_
  · intro j u hu
    rw [Addr.add_mid]
    have hjl : j < l.length * 163 := by have := (List.getElem?_eq_some_iff.1 hu).1; rwa [ocs_length] at this
    have hq : j / 163 < l.length := Nat.div_lt_of_lt_mul (by omega)
    obtain ⟨b', off', e, ho'⟩ := hr (j / 163) hq
    injection e with e
    injection e with e1 e2
    subst e1 e2
    have hm := ocs_get l (j / 163) hq (j % 163) (Nat.mod_lt _ (by decide))
    have ej : j / 163 * 163 + j % 163 = j := Nat.div_add_mod' j 163
    rw [ej, hu] at hm
    have := ho' (j % 163) u hm.symm
    rwa [Nat.add_assoc, ej] at this
  · intro g c' w' h2 h3 h4 h5
    have hg : g = W.heap.size := by
      rcases h4 with h4 | h4
      · cases h4
      · exact h4
    rw [Nat.zero_add, List.nil_append] at h2
    rcases h2.2 with ⟨he, _⟩ | ⟨g', cap', cur, he, _, hb, hc, _, hcs, ht⟩
    · injection he with he
      cases he
    · injection he with he _ hcc
      injection he with he
      injection he with he
      subst he hcc
      rw [Nat.zero_add]
      have e : cur.toList.length = c' * 163 := by simpa using hcs
      have e2 := Nat.mul_le_mul_right 163 hc
      have hle : l.length * 163 ≤ cur.toList.length := by omega
      refine h g c' w' cur.toList (by simpa [Blk] using hb) (by rw [hn]; exact ht) hle hc (by omega) ⟨h3.os, h3.tape, h3.output, h3.size, fun k hk => h3.block k hk (by intro e; cases e)⟩
end
section
variable {w : World} {A : Option Addr} {l : List Oj} {n cap : Nat}
set_option maxRecDepth 8000 in
theorem rcn_n (hr : RdO w A l) (hn : l.length = n) (hl : n ≤ 1000) (x : Ky) {b : Bool} (hb : (named l x).isSome = b) : Calls Tryd.prog 27 #[.slice A n cap, x.val] w fun e w' => e = .returned (.bool b) ∧ Below w.heap.size w w' := by
  subst hn hb
  exact rcounts_any hr hl x
set_option maxRecDepth 8000 in
theorem rprep_n (hr : RdO w A l) (hn : l.length = n) (hl : n ≤ 1000) (h0 : 0 < n) (x : Ky) {q : Ky} (hq : prepd l x = q) : Calls Tryd.prog 28 #[.slice A n cap, x.val] w fun e w' => e = .returned q.val ∧ Below w.heap.size w w' := by
  subst hn hq
  exact rprep_any hr hl h0 x
set_option maxRecDepth 100000 in
set_option maxHeartbeats 2000000 in
theorem rput_any (hr : RdO w A l) (hn : l.length = n) (hl : n ≤ 1000) (j : Nat) (hj : j < n) (q : Oj) {i : Int} (hi : i = (j : Int)) :
    Calls Tryd.prog 72 #[.slice A n cap, .int .i64 i, q.val] w fun e w' => ∃ g c, e = .returned (.slice (some ⟨g, 0, none⟩) n c) ∧ w.heap.size ≤ g ∧ RdO w' (some ⟨g, 0, none⟩) (l.set j q) ∧ Below w.heap.size w w' := by
  subst hi
  have HR := Lib.hid (hr.alloc (.cells q.cells.toArray 52))
  have HB := Lib.hid ((Below.refl w.heap.size w).alloc (Nat.le_refl _) (.cells q.cells.toArray 52))
  have HQ := Lib.hid (Blk.new w 52 q.cells.toArray)
  have HN := Lib.hid hn
  have HL := Lib.hid (show 0 < n ∧ n ≤ 1000 by omega)
  have HJ := Lib.hid (show j < l.length by omega)
  have hbq := q.len
  have dj : (j : Int) < (n : Int) := by omega
  clear hr hn hl hj
  go_enter Tryd.func72, Tryd.ntmps72
  go_wp2_with (first
    | (refine wpList_append_obs rfl (.tmp 8) (by rfl) (by rfl) HR.out HN.out HL.out.1 HL.out.2 ?_; intro g c w1 L hb ht hle hc hg b1; obtain ⟨L2, hL2⟩ : ∃ L2, L.take (j * 163) ++ q.cells ++ L.drop (j * 163 + q.cells.length) = L2 := ⟨_, rfl⟩; have HL2 := Lib.hid hL2; have HCT := Lib.hid (hL2 ▸ row_cut ht j HJ.out q); have HK1 := Lib.hid hb; have HG := Lib.hid (show w.heap.size < g by simp at hg; omega); have HB1 := Lib.hid (HB.out.trans (b1.mono HB.out.size)); have HQ1 := Lib.hid (HQ.out.keep b1); have HFT := Lib.hid (show j * 163 + q.cells.length ≤ L.length by have := HJ.out; rw [q.len]; omega); clear hb ht hle hg b1 hL2)
    | (refine wpList_yields (S := fun w' => ObAt w' w.heap.size 0 q) (y_ob (by rfl) (.tmp 5) (by rfl) w.heap.size 0 (by rfl) q (fun _ h => h)) HQ1.out.ob ?_)
    | (refine wpList_store_in HK1.out rfl (.tmp 13) (.tmp 12) (ty := 52) (l := q.cells) (off := j * 163) (by rfl) (by rfl) (by rfl) (by rw [q.len]; exact size34) HFT.out q.one HL2.out ?_; have HRD := Lib.hid (row_rdo (HK1.out.setRow L2.toArray) HCT.out); have HB2 := Lib.hid (below_setRow HB1.out (Nat.le_of_lt HG.out) L2.toArray)))
  go_ret
  exact ⟨g, c, rfl, Nat.le_of_lt HG.out, HRD.out, HB2.out⟩
set_option maxRecDepth 100000 in
set_option maxHeartbeats 2000000 in
theorem rask_un_f (hr : RdO w A l) (hn : l.length = n) (hl : n ≤ 1000) (h0 : 0 < n) (x : Ky) (hx : (named l x).isSome = false) :
    Calls Tryd.prog 88 #[.slice A n cap, x.val, .int .i64 2, .bool false] w fun e w' => e = .returned (.int .i64 190) ∧ Below w.heap.size w w' := by
  have HR := Lib.hid (hr.alloc (.cells (kc x.k x.o x.c x.l x.r x.v) 31))
  have HB0 := Lib.hid ((Below.refl w.heap.size w).alloc (Nat.le_refl _) (.cells (kc x.k x.o x.c x.l x.r x.v) 31))
  have HK0 := Lib.hid (Blk.new w 31 (kc x.k x.o x.c x.l x.r x.v))
  have HN := Lib.hid hn
  have HL := Lib.hid hl
  have dl : ((n : Int) == 0) = false := by simp; omega
  have dn : n ≠ 0 := by omega
  have HX := Lib.hid hx
  clear hr hn hl h0 hx
  go_enter Tryd.func88, Tryd.ntmps88
  go_wp2_with (go_at_call 27; refine (rcn_n HR.out HN.out HL.out x HX.out).mono ?_; rintro e w1 ⟨rfl, b1⟩; have HB1 := Lib.hid (HB0.out.trans (b1.mono HB0.out.size)); have HK1 := Lib.hid (HK0.out.keep b1); obtain ⟨c0, c1, c2, c3, c4, c5⟩ := HK1.out.six; clear b1)
  go_ret
  exact ⟨rfl, HB1.out⟩
set_option maxRecDepth 100000 in
set_option maxHeartbeats 2000000 in
theorem rask_kind_f (hr : RdO w A l) (hn : l.length = n) (hl : n ≤ 1000) (h0 : 0 < n) (x : Ky) (hx : (named l x).isSome = true) (hk : x.k ≠ 2) :
    Calls Tryd.prog 88 #[.slice A n cap, x.val, .int .i64 2, .bool false] w fun e w' => e = .returned (.int .i64 190) ∧ Below w.heap.size w w' := by
  have HR := Lib.hid (hr.alloc (.cells (kc x.k x.o x.c x.l x.r x.v) 31))
  have HB0 := Lib.hid ((Below.refl w.heap.size w).alloc (Nat.le_refl _) (.cells (kc x.k x.o x.c x.l x.r x.v) 31))
  have HK0 := Lib.hid (Blk.new w 31 (kc x.k x.o x.c x.l x.r x.v))
  have HN := Lib.hid hn
  have HL := Lib.hid hl
  have dl : ((n : Int) == 0) = false := by simp; omega
  have dn : n ≠ 0 := by omega
  have HX := Lib.hid hx
  have dk : (x.k != 2) = true := by simpa using hk
  clear hr hn hl h0 hx hk
  go_enter Tryd.func88, Tryd.ntmps88
  go_wp2_with (go_at_call 27; refine (rcn_n HR.out HN.out HL.out x HX.out).mono ?_; rintro e w1 ⟨rfl, b1⟩; have HB1 := Lib.hid (HB0.out.trans (b1.mono HB0.out.size)); have HK1 := Lib.hid (HK0.out.keep b1); obtain ⟨c0, c1, c2, c3, c4, c5⟩ := HK1.out.six; clear b1)
  go_ret
  exact ⟨rfl, HB1.out⟩
set_option maxRecDepth 100000 in
set_option maxHeartbeats 2000000 in
theorem rask_un_t (hr : RdO w A l) (hn : l.length = n) (hl : n ≤ 1000) (h0 : 0 < n) (x : Ky) (hx : (named l x).isSome = false) :
    Calls Tryd.prog 88 #[.slice A n cap, x.val, .int .i64 2, .bool true] w fun e w' => e = .returned (.int .i64 190) ∧ Below w.heap.size w w' := by
  have HR := Lib.hid (hr.alloc (.cells (kc x.k x.o x.c x.l x.r x.v) 31))
  have HB0 := Lib.hid ((Below.refl w.heap.size w).alloc (Nat.le_refl _) (.cells (kc x.k x.o x.c x.l x.r x.v) 31))
  have HK0 := Lib.hid (Blk.new w 31 (kc x.k x.o x.c x.l x.r x.v))
  have HN := Lib.hid hn
  have HL := Lib.hid hl
  have dl : ((n : Int) == 0) = false := by simp; omega
  have dn : n ≠ 0 := by omega
  have HX := Lib.hid hx
  clear hr hn hl h0 hx
  go_enter Tryd.func88, Tryd.ntmps88
  go_wp2_with (go_at_call 27; refine (rcn_n HR.out HN.out HL.out x HX.out).mono ?_; rintro e w1 ⟨rfl, b1⟩; have HB1 := Lib.hid (HB0.out.trans (b1.mono HB0.out.size)); have HK1 := Lib.hid (HK0.out.keep b1); obtain ⟨c0, c1, c2, c3, c4, c5⟩ := HK1.out.six; clear b1)
  go_ret
  exact ⟨rfl, HB1.out⟩
set_option maxRecDepth 100000 in
set_option maxHeartbeats 2000000 in
theorem rask_kind_t (hr : RdO w A l) (hn : l.length = n) (hl : n ≤ 1000) (h0 : 0 < n) (x : Ky) (hx : (named l x).isSome = true) (hk : x.k ≠ 2) :
    Calls Tryd.prog 88 #[.slice A n cap, x.val, .int .i64 2, .bool true] w fun e w' => e = .returned (.int .i64 190) ∧ Below w.heap.size w w' := by
  have HR := Lib.hid (hr.alloc (.cells (kc x.k x.o x.c x.l x.r x.v) 31))
  have HB0 := Lib.hid ((Below.refl w.heap.size w).alloc (Nat.le_refl _) (.cells (kc x.k x.o x.c x.l x.r x.v) 31))
  have HK0 := Lib.hid (Blk.new w 31 (kc x.k x.o x.c x.l x.r x.v))
  have HN := Lib.hid hn
  have HL := Lib.hid hl
  have dl : ((n : Int) == 0) = false := by simp; omega
  have dn : n ≠ 0 := by omega
  have HX := Lib.hid hx
  have dk : (x.k != 2) = true := by simpa using hk
  clear hr hn hl h0 hx hk
  go_enter Tryd.func88, Tryd.ntmps88
  go_wp2_with (go_at_call 27; refine (rcn_n HR.out HN.out HL.out x HX.out).mono ?_; rintro e w1 ⟨rfl, b1⟩; have HB1 := Lib.hid (HB0.out.trans (b1.mono HB0.out.size)); have HK1 := Lib.hid (HK0.out.keep b1); obtain ⟨c0, c1, c2, c3, c4, c5⟩ := HK1.out.six; clear b1)
  go_ret
  exact ⟨rfl, HB1.out⟩
set_option maxRecDepth 100000 in
set_option maxHeartbeats 2000000 in
theorem rask_yes_f (hr : RdO w A l) (hn : l.length = n) (hl : n ≤ 1000) (h0 : 0 < n) (x : Ky) (hx : (named l x).isSome = true) (hk : x.k = 2) :
    Calls Tryd.prog 88 #[.slice A n cap, x.val, .int .i64 2, .bool false] w fun e w' => e = .returned (.int .i64 0) ∧ Below w.heap.size w w' := by
  have HR := Lib.hid (hr.alloc (.cells (kc x.k x.o x.c x.l x.r x.v) 31))
  have HB0 := Lib.hid ((Below.refl w.heap.size w).alloc (Nat.le_refl _) (.cells (kc x.k x.o x.c x.l x.r x.v) 31))
  have HK0 := Lib.hid (Blk.new w 31 (kc x.k x.o x.c x.l x.r x.v))
  have HN := Lib.hid hn
  have HL := Lib.hid hl
  have dl : ((n : Int) == 0) = false := by simp; omega
  have dn : n ≠ 0 := by omega
  have HX := Lib.hid hx
  have dk : (x.k != 2) = false := by simpa using hk
  clear hr hn hl h0 hx hk
  go_enter Tryd.func88, Tryd.ntmps88
  go_wp2_with (go_at_call 27; refine (rcn_n HR.out HN.out HL.out x HX.out).mono ?_; rintro e w1 ⟨rfl, b1⟩; have HB1 := Lib.hid (HB0.out.trans (b1.mono HB0.out.size)); have HK1 := Lib.hid (HK0.out.keep b1); obtain ⟨c0, c1, c2, c3, c4, c5⟩ := HK1.out.six; clear b1)
  go_ret
  exact ⟨rfl, HB1.out⟩
set_option maxRecDepth 100000 in
set_option maxHeartbeats 2000000 in
theorem rask_yes_t (hr : RdO w A l) (hn : l.length = n) (hl : n ≤ 1000) (h0 : 0 < n) (x : Ky) (hx : (named l x).isSome = true) (hk : x.k = 2) (hok : x.ok) (hr4 : x.r % 4 = 0) :
    Calls Tryd.prog 88 #[.slice A n cap, x.val, .int .i64 2, .bool true] w fun e w' => e = .returned (.int .i64 0) ∧ Below w.heap.size w w' := by
  have HR := Lib.hid (hr.alloc (.cells (kc x.k x.o x.c x.l x.r x.v) 31))
  have HB0 := Lib.hid ((Below.refl w.heap.size w).alloc (Nat.le_refl _) (.cells (kc x.k x.o x.c x.l x.r x.v) 31))
  have HK0 := Lib.hid (Blk.new w 31 (kc x.k x.o x.c x.l x.r x.v))
  have HN := Lib.hid hn
  have HL := Lib.hid hl
  have dl : ((n : Int) == 0) = false := by simp; omega
  have dn : n ≠ 0 := by omega
  have HX := Lib.hid hx
  have dk : (x.k != 2) = false := by simpa using hk
  obtain ⟨_, r, hr', _, hr8⟩ := ok_of hok
  have em : x.r.tmod 4 = x.r % 4 := Int.tmod_eq_emod_of_nonneg (by omega)
  have em2 : x.r.tmod 4 = 0 := by rw [em, hr4]
  clear hr hn hl h0 hx hk hok hr4 hr' em
  go_enter Tryd.func88, Tryd.ntmps88
  go_wp2_with (go_at_call 27; refine (rcn_n HR.out HN.out HL.out x HX.out).mono ?_; rintro e w1 ⟨rfl, b1⟩; have HB1 := Lib.hid (HB0.out.trans (b1.mono HB0.out.size)); have HK1 := Lib.hid (HK0.out.keep b1); obtain ⟨c0, c1, c2, c3, c4, c5⟩ := HK1.out.six; clear b1)
  go_ret
  exact ⟨rfl, HB1.out⟩
set_option maxRecDepth 100000 in
set_option maxHeartbeats 2000000 in
theorem rask_right_t (hr : RdO w A l) (hn : l.length = n) (hl : n ≤ 1000) (h0 : 0 < n) (x : Ky) (hx : (named l x).isSome = true) (hk : x.k = 2) (hok : x.ok) (m : Int) (hm : x.r % 4 = m) (hr4 : m ≠ 0) :
    Calls Tryd.prog 88 #[.slice A n cap, x.val, .int .i64 2, .bool true] w fun e w' => e = .returned (.int .i64 191) ∧ Below w.heap.size w w' := by
  have HR := Lib.hid (hr.alloc (.cells (kc x.k x.o x.c x.l x.r x.v) 31))
  have HB0 := Lib.hid ((Below.refl w.heap.size w).alloc (Nat.le_refl _) (.cells (kc x.k x.o x.c x.l x.r x.v) 31))
  have HK0 := Lib.hid (Blk.new w 31 (kc x.k x.o x.c x.l x.r x.v))
  have HN := Lib.hid hn
  have HL := Lib.hid hl
  have dl : ((n : Int) == 0) = false := by simp; omega
  have dn : n ≠ 0 := by omega
  have HX := Lib.hid hx
  have dk : (x.k != 2) = false := by simpa using hk
  obtain ⟨_, r, hr', _, hr8⟩ := ok_of hok
  have em : x.r.tmod 4 = x.r % 4 := Int.tmod_eq_emod_of_nonneg (by omega)
  have em2 : x.r.tmod 4 = m := by rw [em, hm]
  have m0 : -9223372036854775808 ≤ m := by omega
  have m1 : m ≤ 9223372036854775807 := by omega
  have dm : (m != 0) = true := by simpa using hr4
  clear hr hn hl h0 hx hk hok hr4 hr' em hm
  go_enter Tryd.func88, Tryd.ntmps88
  go_wp2_with (go_at_call 27; refine (rcn_n HR.out HN.out HL.out x HX.out).mono ?_; rintro e w1 ⟨rfl, b1⟩; have HB1 := Lib.hid (HB0.out.trans (b1.mono HB0.out.size)); have HK1 := Lib.hid (HK0.out.keep b1); obtain ⟨c0, c1, c2, c3, c4, c5⟩ := HK1.out.six; clear b1)
  go_ret
  exact ⟨rfl, HB1.out⟩
end
end Go.Proofs.YtfckdbennjkgoaaDoor
namespace Go.Proofs.YtfckdbennjkgoaaDoor
open Go.RowKit
section
variable {w : World} {A : Option Addr} {l : List Oj} {n cap : Nat}
theorem cell_eq {w : World} {p : Addr} {a b : Int} (h : w.cell? p = some (.int .i64 a)) (e : a = b) : w.cell? p = some (.int .i64 b) := e ▸ h
set_option maxRecDepth 100000 in
set_option maxHeartbeats 2000000 in
theorem rgot_plain (hr : RdO w A l) (hn : l.length = n) (hl : n ≤ 1000) (x : Ky) (j : Nat) (hj : j < l.length) (hxo : x.o = (j : Int)) (i : Nat) (hi : i < 16) (y : Ky) (hy : (l[j]).s[i]? = some y) (hok : x.ok) (hrr : x.r / 2 % 2 ≠ 1) (q : Ky) (hq : prepd l y = q) :
    Calls Tryd.prog 30 #[.slice A n cap, x.val, .int .i64 (i : Int)] w fun e w' => e = .returned q.val ∧ Below w.heap.size w w' := by
  obtain ⟨b, off, rfl, hob⟩ := hr j hj
  obtain ⟨y', hy', hk⟩ := hob.slot hi
  rw [hy] at hy'
  injection hy' with hy'
  subst hy'
  have HR := Lib.hid ((hr.alloc (.cells (kc x.k x.o x.c x.l x.r x.v) 31)).alloc (.cells (kc 0 0 0 0 0 0) 31))
  have HB0 := Lib.hid (((Below.refl w.heap.size w).alloc (Nat.le_refl _) (.cells (kc x.k x.o x.c x.l x.r x.v) 31)).alloc (by simp) (.cells (kc 0 0 0 0 0 0) 31))
  have HK0 := Lib.hid ((Blk.new w 31 (kc x.k x.o x.c x.l x.r x.v)).alloc (.cells (kc 0 0 0 0 0 0) 31))
  have HZ0 := Lib.hid (Blk.new_of (w.alloc (.cells (kc x.k x.o x.c x.l x.r x.v) 31)) 31 (kc 0 0 0 0 0 0) (g := w.heap.size + 1) (by simp))
  obtain ⟨y0, y1, y2, y3, y4, y5⟩ := ((hk.alloc (.cells (kc x.k x.o x.c x.l x.r x.v) 31)).alloc (.cells (kc 0 0 0 0 0 0) 31)).six
  have x1 := cell_eq HK0.out.six.2.1 hxo
  have HN := Lib.hid hn
  have HL := Lib.hid hl
  have HQ := Lib.hid hq
  have HQO := Lib.hid (hq ▸ prepd_ok l y)
  have H0 := Lib.hid (show 0 < n by omega)
  have dj : (j : Int) < (n : Int) := by omega
  have di : (i : Int) < 16 := by omega
  obtain ⟨_, r, hr', _, hr8⟩ := ok_of hok
  obtain ⟨d, hd⟩ : ∃ d : Int, d = x.r / 2 := ⟨_, rfl⟩
  obtain ⟨m, hm⟩ : ∃ m : Int, m = x.r / 2 % 2 := ⟨_, rfl⟩
  have ed : x.r.tdiv 2 = d := by rw [hd]; exact Int.tdiv_eq_ediv_of_nonneg (by omega)
  have em : d.tmod 2 = m := by rw [hm, hd]; exact Int.tmod_eq_emod_of_nonneg (by omega)
  have d0 : -9223372036854775808 ≤ d := by omega
  have d1 : d ≤ 9223372036854775807 := by omega
  have m0 : -9223372036854775808 ≤ m := by omega
  have m1 : m ≤ 9223372036854775807 := by omega
  have dm : (m == 1) = false := by rw [hm]; simpa using hrr
  clear hr hn hl hj hxo hi hy hok hrr hq hob hk hr' hd hm
  go_enter Tryd.func30, Tryd.ntmps30
  go_wp2_with (first
    | (go_at_call 28; refine (rprep_n HR.out HN.out HL.out H0.out y HQ.out).mono ?_; rintro e w1 ⟨rfl, b1⟩; have HB1 := Lib.hid ((HB0.out.trans (b1.mono HB0.out.size)).alloc (Nat.le_trans HB0.out.size b1.size) (.cells (kl q).toArray 31)); have HK1 := Lib.hid ((HK0.out.keep b1).alloc (.cells (kl q).toArray 31)); have HZ1 := Lib.hid ((HZ0.out.keep b1).alloc (.cells (kl q).toArray 31)); clear x1 y0 y1 y2 y3 y4 y5; obtain ⟨c0, c1, c2, c3, c4, c5⟩ := HK1.out.six; obtain ⟨q0, q1, q2, q3, q4, q5⟩ := (Blk.new w1 31 (kl q).toArray).six; clear b1)
    | (refine wpList_store_new (l := kl q) (l0 := kl zk) (ty := 31) rfl (.tmp 7) (.tmp 17) (by rfl) _ rfl (by rfl) (by rfl) size30 rfl (kl_one _) ?_)
    | (refine wpList_store_ky (y := zk) HZ1.out rfl (.tmp 6) (.tmp 25) rfl (by rfl) q (by rfl) ?_))
  exact bodyPost_ret (results_key rfl _ _ (w.heap.size + 1) q rfl (HZ1.out.setRow _)) rfl ⟨rfl, below_setRow HB1.out (by omega) _⟩
set_option maxRecDepth 100000 in
set_option maxHeartbeats 2000000 in
theorem rgot_weak (hr : RdO w A l) (hn : l.length = n) (hl : n ≤ 1000) (x : Ky) (j : Nat) (hj : j < l.length) (hxo : x.o = (j : Int)) (i : Nat) (hi : i < 16) (y : Ky) (hy : (l[j]).s[i]? = some y) (hok : x.ok) (hrr : x.r / 2 % 2 = 1) (q : Ky) (hq : prepd l y = q) :
    Calls Tryd.prog 30 #[.slice A n cap, x.val, .int .i64 (i : Int)] w fun e w' => e = .returned q.weak.val ∧ Below w.heap.size w w' := by
  obtain ⟨b, off, rfl, hob⟩ := hr j hj
  obtain ⟨y', hy', hk⟩ := hob.slot hi
  rw [hy] at hy'
  injection hy' with hy'
  subst hy'
  have HR := Lib.hid ((hr.alloc (.cells (kc x.k x.o x.c x.l x.r x.v) 31)).alloc (.cells (kc 0 0 0 0 0 0) 31))
  have HB0 := Lib.hid (((Below.refl w.heap.size w).alloc (Nat.le_refl _) (.cells (kc x.k x.o x.c x.l x.r x.v) 31)).alloc (by simp) (.cells (kc 0 0 0 0 0 0) 31))
  have HK0 := Lib.hid ((Blk.new w 31 (kc x.k x.o x.c x.l x.r x.v)).alloc (.cells (kc 0 0 0 0 0 0) 31))
  have HZ0 := Lib.hid (Blk.new_of (w.alloc (.cells (kc x.k x.o x.c x.l x.r x.v) 31)) 31 (kc 0 0 0 0 0 0) (g := w.heap.size + 1) (by simp))
  obtain ⟨y0, y1, y2, y3, y4, y5⟩ := ((hk.alloc (.cells (kc x.k x.o x.c x.l x.r x.v) 31)).alloc (.cells (kc 0 0 0 0 0 0) 31)).six
  have x1 := cell_eq HK0.out.six.2.1 hxo
  have HN := Lib.hid hn
  have HL := Lib.hid hl
  have HQ := Lib.hid hq
  have HQO := Lib.hid (hq ▸ prepd_ok l y)
  have H0 := Lib.hid (show 0 < n by omega)
  have dj : (j : Int) < (n : Int) := by omega
  have di : (i : Int) < 16 := by omega
  obtain ⟨_, r, hr', _, hr8⟩ := ok_of hok
  obtain ⟨d, hd⟩ : ∃ d : Int, d = x.r / 2 := ⟨_, rfl⟩
  obtain ⟨m, hm⟩ : ∃ m : Int, m = x.r / 2 % 2 := ⟨_, rfl⟩
  have ed : x.r.tdiv 2 = d := by rw [hd]; exact Int.tdiv_eq_ediv_of_nonneg (by omega)
  have em : d.tmod 2 = m := by rw [hm, hd]; exact Int.tmod_eq_emod_of_nonneg (by omega)
  have d0 : -9223372036854775808 ≤ d := by omega
  have d1 : d ≤ 9223372036854775807 := by omega
  have m0 : -9223372036854775808 ≤ m := by omega
  have m1 : m ≤ 9223372036854775807 := by omega
  have dm : (m == 1) = true := by rw [hm]; simpa using hrr
  clear hr hn hl hj hxo hi hy hok hrr hq hob hk hr' hd hm
  go_enter Tryd.func30, Tryd.ntmps30
  go_wp2_with (first
    | (go_at_call 28; refine (rprep_n HR.out HN.out HL.out H0.out y HQ.out).mono ?_; rintro e w1 ⟨rfl, b1⟩; have HB1 := Lib.hid ((HB0.out.trans (b1.mono HB0.out.size)).alloc (Nat.le_trans HB0.out.size b1.size) (.cells (kl q).toArray 31)); have HK1 := Lib.hid ((HK0.out.keep b1).alloc (.cells (kl q).toArray 31)); have HZ1 := Lib.hid ((HZ0.out.keep b1).alloc (.cells (kl q).toArray 31)); clear x1 y0 y1 y2 y3 y4 y5; obtain ⟨c0, c1, c2, c3, c4, c5⟩ := HK1.out.six; obtain ⟨q0, q1, q2, q3, q4, q5⟩ := (Blk.new w1 31 (kl q).toArray).six; clear b1)
    | (refine wpList_store_new (l := kl q) (l0 := kl zk) (ty := 31) rfl (.tmp 7) (.tmp 17) (by rfl) _ rfl (by rfl) (by rfl) size30 rfl (kl_one _) ?_)
    | (go_at_call 55; refine (rweaken_ok q _ HQO.out).mono ?_; rintro e w2 ⟨rfl, b2⟩; have HB2 := Lib.hid (HB1.out.trans (b2.mono HB1.out.size)); have HZ2 := Lib.hid (HZ1.out.keep b2); clear b2 c0 c1 c2 c3 c4 c5 q0 q1 q2 q3 q4 q5)
    | (refine wpList_store_ky (y := zk) HZ2.out rfl (.tmp 6) (.tmp 24) rfl (by rfl) q.weak (by rfl) ?_))
  exact bodyPost_ret (results_key rfl _ _ (w.heap.size + 1) q.weak rfl (HZ2.out.setRow _)) rfl ⟨rfl, below_setRow HB2.out (by omega) _⟩
set_option maxRecDepth 8000 in
theorem rgot_any (hr : RdO w A l) (hn : l.length = n) (hl : n ≤ 1000) (x : Ky) (j : Nat) (hj : j < l.length) (hxo : x.o = (j : Int)) (i : Nat) (hi : i < 16) (y : Ky) (hy : (l[j]).s[i]? = some y) (hok : x.ok) {g : Ky} (hg : gotK l x y = g) :
    Calls Tryd.prog 30 #[.slice A n cap, x.val, .int .i64 (i : Int)] w fun e w' => e = .returned g.val ∧ Below w.heap.size w w' := by
  subst hg
  unfold gotK
  by_cases hrr : x.r / 2 % 2 = 1
  · rw [if_pos hrr]
    exact rgot_weak hr hn hl x j hj hxo i hi y hy hok hrr _ rfl
  · rw [if_neg hrr]
    exact rgot_plain hr hn hl x j hj hxo i hi y hy hok hrr _ rfl
set_option maxRecDepth 100000 in
set_option maxHeartbeats 2000000 in
theorem rmay_bad (n cap : Nat) (A : Option Addr) (v : Ky) (hv : ¬ v.ok) (w : World) :
    Calls Tryd.prog 26 #[.slice A n cap, v.val] w fun e w' => e = .returned (.bool false) ∧ Below w.heap.size w w' := by
  have HB0 := Lib.hid ((Below.refl w.heap.size w).alloc (Nat.le_refl _) (.cells (kc v.k v.o v.c v.l v.r v.v) 31))
  have HK0 := Lib.hid (Blk.new w 31 (kc v.k v.o v.c v.l v.r v.v))
  obtain ⟨c0, c1, c2, c3, c4, c5⟩ := HK0.out.six
  have HV := Lib.hid hv
  clear hv
  go_enter Tryd.func26, Tryd.ntmps26
  go_wp2_with (first
    | (go_at_call 52; refine (Ky.chk_no HV.out ▸ rchk_any v _).mono ?_; rintro e w1 ⟨rfl, b1⟩; have HB1 := Lib.hid (HB0.out.trans (b1.mono HB0.out.size)); have HK1 := Lib.hid (HK0.out.keep b1); clear c0 c1 c2 c3 c4 c5; obtain ⟨c0, c1, c2, c3, c4, c5⟩ := HK1.out.six; clear b1))
  go_ret
  exact ⟨rfl, HB1.out⟩
set_option maxRecDepth 100000 in
set_option maxHeartbeats 2000000 in
theorem rmay_of (n cap : Nat) (A : Option Addr) (v : Ky) (hv : v.of) (w : World) :
    Calls Tryd.prog 26 #[.slice A n cap, v.val] w fun e w' => e = .returned (.bool (decide (v.o < (n : Int)))) ∧ Below w.heap.size w w' := by
  have HB0 := Lib.hid ((Below.refl w.heap.size w).alloc (Nat.le_refl _) (.cells (kc v.k v.o v.c v.l v.r v.v) 31))
  have HK0 := Lib.hid (Blk.new w 31 (kc v.k v.o v.c v.l v.r v.v))
  obtain ⟨c0, c1, c2, c3, c4, c5⟩ := HK0.out.six
  have HV := Lib.hid hv
  clear hv
  go_enter Tryd.func26, Tryd.ntmps26
  go_wp2_with (first
    | (go_at_call 52; refine (Ky.chk_yes HV.out.1 ▸ rchk_any v _).mono ?_; rintro e w1 ⟨rfl, b1⟩; have HB1 := Lib.hid (HB0.out.trans (b1.mono HB0.out.size)); have HK1 := Lib.hid (HK0.out.keep b1); clear c0 c1 c2 c3 c4 c5; obtain ⟨c0, c1, c2, c3, c4, c5⟩ := HK1.out.six; clear b1)
    | (go_at_call 53; refine (rname_yes v _ HV.out).mono ?_; rintro e w2 ⟨rfl, b2⟩; have HB2 := Lib.hid (HB1.out.trans (b2.mono HB1.out.size)); clear b2))
  go_ret
  exact ⟨rfl, HB2.out⟩
set_option maxRecDepth 100000 in
set_option maxHeartbeats 2000000 in
theorem rmay_not (n cap : Nat) (A : Option Addr) (v : Ky) (hv : v.ok) (hf : ¬ v.of) (w : World) :
    Calls Tryd.prog 26 #[.slice A n cap, v.val] w fun e w' => e = .returned (.bool true) ∧ Below w.heap.size w w' := by
  have HB0 := Lib.hid ((Below.refl w.heap.size w).alloc (Nat.le_refl _) (.cells (kc v.k v.o v.c v.l v.r v.v) 31))
  have HK0 := Lib.hid (Blk.new w 31 (kc v.k v.o v.c v.l v.r v.v))
  obtain ⟨c0, c1, c2, c3, c4, c5⟩ := HK0.out.six
  have HV := Lib.hid hv
  have HF := Lib.hid hf
  have dn : decide ((-1 : Int) < (n : Int)) = true := decide_eq_true (by omega)
  clear hv hf
  go_enter Tryd.func26, Tryd.ntmps26
  go_wp2_with (first
    | (go_at_call 52; refine (Ky.chk_yes HV.out ▸ rchk_any v _).mono ?_; rintro e w1 ⟨rfl, b1⟩; have HB1 := Lib.hid (HB0.out.trans (b1.mono HB0.out.size)); have HK1 := Lib.hid (HK0.out.keep b1); clear c0 c1 c2 c3 c4 c5; obtain ⟨c0, c1, c2, c3, c4, c5⟩ := HK1.out.six; clear b1)
    | (go_at_call 53; refine (rname_no v _ HF.out).mono ?_; rintro e w2 ⟨rfl, b2⟩; have HB2 := Lib.hid (HB1.out.trans (b2.mono HB1.out.size)); clear b2))
  go_ret
  exact ⟨rfl, HB2.out⟩
set_option maxRecDepth 8000 in
theorem rmay_y (n cap : Nat) (A : Option Addr) (v : Ky) (hv : v.may n) (w : World) :
    Calls Tryd.prog 26 #[.slice A n cap, v.val] w fun e w' => e = .returned (.bool true) ∧ Below w.heap.size w w' := by
  by_cases hf : v.of
  · have := rmay_of n cap A v hf w
    rwa [show decide (v.o < (n : Int)) = true by simpa using hv.2 hf] at this
  · exact rmay_not n cap A v hv.1 hf w
set_option maxRecDepth 8000 in
theorem rmay_n (n cap : Nat) (A : Option Addr) (v : Ky) (hv : ¬ v.may n) (w : World) :
    Calls Tryd.prog 26 #[.slice A n cap, v.val] w fun e w' => e = .returned (.bool false) ∧ Below w.heap.size w w' := by
  by_cases hk : v.ok
  · by_cases hf : v.of
    · have := rmay_of n cap A v hf w
      rwa [show decide (v.o < (n : Int)) = false by simp; by_cases h : v.o < (n : Int); exact absurd ⟨hk, fun _ => h⟩ hv; omega] at this
    · exact absurd ⟨hk, fun h => absurd h hf⟩ hv
  · exact rmay_bad n cap A v hk w
end
end Go.Proofs.YtfckdbennjkgoaaDoor

import Derived.Test.YtljfddeolapeaaaDoorJArgs
import Derived.Test.YtljfddeolapeaaaDoorR06
import Derived.Test.YtljfddeolapeaaaDoorJRy
import Derived.Test.YtljfddeolapeaaaDoorJRs
import Derived.Test.YtljfddeolapeaaaDoorR18
import Derived.Test.YtljfddeolapeaaaDoorJRm
import Derived.Test.YtljfddeolapeaaaDoorJTo
import Derived.Test.YtljfddeolapeaaaDoorJAn
import Derived.Test.YtljfddeolapeaaaDoorR17
import Derived.Test.YtljfddeolapeaaaDoorR09
import Derived.Test.YtljfddeolapeaaaDoorR07
import Derived.Test.YtljfddeolapeaaaDoorR08
import Derived.Test.YtljfddeolapeaaaDoorJAl
import Derived.Test.YtljfddeolapeaaaDoorJRa
import Derived.Test.YtljfddeolapeaaaDoorJRb
import Derived.Test.YtljfddeolapeaaaDoorJVr
import Derived.Test.YtljfddeolapeaaaDoorJRn
/- procs: messages that are the same: == and !=. -/
namespace Go.Proofs.YtljfddeolapeaaaDoor
open List renaming getElem_toArray → zq1, getElem_cons_succ → zq2, getElem_cons_zero → zq3, setIfInBounds_toArray → zq4, set_cons_zero → zq5, set_cons_succ → zq6
open Go.RowKit
set_option maxRecDepth 8000 in
theorem fieldsM : (Tryd.prog.fieldsOf 38).toList.map (fun f => (f.name == "_", f.type, f.offset)) = [(false, 2, 0), (false, 9, 1), (false, 36, 2)] := by kernel_rfl
set_option maxRecDepth 8000 in
theorem keys3_equalIn (w : World) (d : Nat) (l l' : List Ky) (h : l.length = 3) (h' : l'.length = 3) : (Op.equalIn (d + 3) 36 (.agg (kcs l).toArray) (.agg (kcs l').toArray)).run Tryd.prog w = .ok (decide (l = l')) w := by
  obtain ⟨i, hi⟩ := info_some size30
  have hc : Tryd.prog.cellsOf 33 = 6 := by kernel_rfl
  rw [show d + 3 = (d + 2) + 1 from rfl, run_equalIn_array w (d + 2) _ _ Tryd.underlying36 hi, hc, ob_itemsK w d l l' _ (fun j hj => by have := List.mem_range.1 hj; omega), all_range_of l l' 3 h h']
set_option maxRecDepth 8000 in
theorem mg_keysAt (x : Mg) : (x.cells.drop 2).take 18 = kcs x.k := by
  show (kcs x.k).take 18 = kcs x.k
  rw [List.take_of_length_le (by rw [kcs3 x.hk]; decide)]
set_option maxRecDepth 8000 in
theorem mg_fields (w : World) (d : Nat) (x : Mg) : (Op.eqFields (d + 3) x.cells.toArray x.cells.toArray (Tryd.prog.fieldsOf 38).toList).run Tryd.prog w = .ok true w := by
  have hf := fieldsM
  generalize (Tryd.prog.fieldsOf 38).toList = fs at hf ⊢
  have hl : fs.length = 3 := by have := congrArg List.length hf; simpa using this
  match fs, hl, hf with
  | [f0, f1, f2], _, hf =>
    simp only [List.map_cons, List.map_nil, List.cons.injEq, Prod.mk.injEq, and_true] at hf
    obtain ⟨⟨n0, t0, o0⟩, ⟨n1, t1, o1⟩, ⟨n2, t2, o2⟩⟩ := hf
    have hb : (decide (x.c = x.c) && (decide (x.d = x.d) && (decide (x.k = x.k) && true))) = true := by simp
    rw [← hb]
    have i0 : ∀ a b : Int, (Op.equalIn (d + 3) 2 (.int .i64 a) (.int .i64 b)).run Tryd.prog w = .ok (decide (a = b)) w := fun a b => by
      rw [run_equalIn_int w (d + 2) 2 .i64 .i64 a b Tryd.underlying2]
      congr 1
    have i1 : (Op.equalIn (d + 3) 9 (.string (st x.d)) (.string (st x.d))).run Tryd.prog w = .ok (decide (x.d = x.d)) w := by
      rw [run_equalIn_string w (d + 2) 9 _ _ Tryd.underlying9]
      simp
    exact eq_headG w f0 _ n0 t0 o0 (run_part_plain w (by kernel_rfl) rfl) (run_part_plain w (by kernel_rfl) rfl) (i0 _ _) _ <|
      eq_headG w f1 _ n1 t1 o1 (run_part_plain w (by kernel_rfl) rfl) (run_part_plain w (by kernel_rfl) rfl) i1 _ <|
      eq_headG w f2 _ n2 t2 o2 (part_agg w Tryd.underlying36 rfl size3k (mg_keysAt x)) (part_agg w Tryd.underlying36 rfl size3k (mg_keysAt x)) (keys3_equalIn w d _ _ x.hk x.hk) _ <| eqFields_nil _ _ _ w
set_option maxRecDepth 8000 in
theorem mg_neq (w : World) (x : Mg) : (binOp .neq 38 x.val x.val).run Tryd.prog w = .ok (.bool false) w := by
  rw [run_neq_struct, run_equalIn_agg w 9999 38 _ _ (by kernel_rfl) (by kernel_rfl), mg_fields w 9996 x]
  rfl
section
variable {ops : Array Oper} {o : Oper} {a : Act} {S : World → Prop} {p q : Operand}
theorem y_mgne (hw : Region.wanted o (yielded ops a.tmps) = true) (ho : o.op = .binOp .neq 38 p q 38) (x : Mg) (hx : a.eval p = x.val) (hy : a.eval q = x.val) : YieldsIf Tryd.prog ops S o (.bool false) a := y_bin hw ho hx hy (by kernel_rfl) (fun w => mg_neq w x)
end
end Go.Proofs.YtljfddeolapeaaaDoor

/- the document's layer 13: Invoke, of any list. -/
namespace Go.Proofs.YtljfddeolapeaaaDoor
open List renaming getElem_toArray → zq1, getElem_cons_succ → zq2, getElem_cons_zero → zq3, setIfInBounds_toArray → zq4, set_cons_zero → zq5, set_cons_succ → zq6
open Go.RowKit
set_option maxRecDepth 8000 in
theorem stN_bnd {u : Oj} {z : Int} (h : stN u = some z) : 0 ≤ z ∧ z ≤ 2 := by
  unfold stN at h
  split at h
  · next q => injection h with h; omega
  · cases h
set_option maxRecDepth 8000 in
theorem getD_one {o : Option Int} (h : o.getD (-1) = 1) : o = some 1 := by
  cases o with
  | none => exact absurd h (by decide)
  | some z => rw [Option.getD_some] at h; rw [h]
section
variable {w : World} {A : Option Addr} {cap n : Nat} {l : List Oj}
set_option maxRecDepth 8000 in
theorem rin_no (hr : RdO w A l) (hn : l.length = n) (hl : n ≤ 1000) (h0 : 0 < n) (hok : okAll n l) (i : Int) (x : Ky) (md : Int) (m : Mg) {v : Int} (hv : (invA l i x md m).2 = v) (hne : v ≠ 0) : Calls Tryd.prog 23 #[.slice A n cap, .int .i64 i, x.val, .int .i64 md, m.val] w fun e w' => e = .returned (.tuple #[.slice A n cap, .int .i64 v]) ∧ Below w.heap.size w w' := by
  subst hv hn
  have hcn : ∀ W, Below w.heap.size w W → Calls Tryd.prog 57 #[.slice A l.length cap, m.val] W fun e w' => e = .returned (cntM l m).val ∧ Below W.heap.size W w' := fun W hb => rcntd (hr.below hb) rfl hl h0 m
  have hs1 : ∀ W, Below w.heap.size w W → Calls Tryd.prog 29 #[.slice A l.length cap, .int .i64 i] W fun e w' => e = .returned (.int .i64 ((stA l i).getD (-1))) ∧ Below W.heap.size W w' := fun W hb => rst_any (hr.below hb) rfl i rfl
  have hc : ∀ W, Below w.heap.size w W → Calls Tryd.prog 58 #[.slice A l.length cap, x.val] W fun e w' => e = .returned (.bool (named l x).isSome) ∧ Below W.heap.size W w' := fun W hb => rcn_n (hr.below hb) rfl hl x rfl
  have hs2 : ∀ W, Below w.heap.size w W → Calls Tryd.prog 29 #[.slice A l.length cap, .int .i64 x.o] W fun e w' => e = .returned (.int .i64 ((stA l x.o).getD (-1))) ∧ Below W.heap.size W w' := fun W hb => rst_any (hr.below hb) rfl x.o rfl
  by_cases h1 : md < 1
  · rw [show (invA l i x md m).2 = 2 by unfold invA; rw [if_pos (.inl (by omega))]]
    exact rin_m1 h0 i x md m h1
  by_cases h2 : 3 < md
  · rw [show (invA l i x md m).2 = 2 by unfold invA; rw [if_pos (.inl (by omega))]]
    exact rin_m2 h0 i x md m h1 h2
  by_cases hx : x.may l.length
  case neg =>
    rw [show (invA l i x md m).2 = 2 by unfold invA; rw [if_pos (.inr (.inl hx))]]
    exact rin_x h0 i x md m h1 h2 hx
  by_cases hm : mayM l m
  case neg =>
    rw [show (invA l i x md m).2 = 2 by unfold invA; rw [if_pos (.inr (.inr hm))]]
    exact rin_y h0 i x md m h1 h2 hx hm
  have n1 : ¬ (¬ (1 ≤ md ∧ md ≤ 3) ∨ ¬ x.may l.length ∨ ¬ mayM l m) := by
    rintro (h | h | h)
    · omega
    · exact h hx
    · exact h hm
  by_cases hs : stA l i = some 1
  case neg =>
    rw [show (invA l i x md m).2 = 230 by unfold invA; rw [if_neg n1, if_pos hs]]
    exact rin_r h0 i x md m h1 h2 hx hm _ hcn _ hs1 fun e => hs (getD_one e)
  have hs' : (stA l i).getD (-1) = 1 := by rw [hs]; rfl
  by_cases hcb : (named l x).isSome = true
  case neg =>
    rw [show (invA l i x md m).2 = 231 by unfold invA; rw [if_neg n1, if_neg (not_not_intro hs), if_pos fun q => hcb q.1]]
    exact rin_c h0 i x md m h1 h2 hx hm _ hcn _ hs1 hs' _ hc (by simpa using hcb)
  by_cases hk : x.k = 6 ∨ x.k = 7
  case neg =>
    rw [show (invA l i x md m).2 = 231 by unfold invA; rw [if_neg n1, if_neg (not_not_intro hs), if_pos fun q => hk q.2.1]]
    exact rin_k h0 i x md m h1 h2 hx hm _ hcn _ hs1 hs' _ hc hcb (fun e => hk (.inl e)) fun e => hk (.inr e)
  by_cases hg : stA l x.o = none
  · rw [show (invA l i x md m).2 = 231 by unfold invA; rw [if_neg n1, if_neg (not_not_intro hs), if_pos fun q => q.2.2 hg]]
    have hv2 : (stA l x.o).getD (-1) < 0 := by rw [hg]; decide
    rcases hk with hk | hk
    · exact rin_g6 h0 i x md m h1 h2 hx hm _ hcn _ hs1 hs' _ hc hcb _ hs2 hk hv2
    · exact rin_g7 h0 i x md m h1 h2 hx hm _ hcn _ hs1 hs' _ hc hcb _ hs2 hk hv2
  have n3 : ¬ ¬ ((named l x).isSome = true ∧ (x.k = 6 ∨ x.k = 7) ∧ stA l x.o ≠ none) := not_not_intro ⟨hcb, hk, hg⟩
  obtain ⟨z, hz⟩ : ∃ z, stA l x.o = some z := Option.ne_none_iff_exists'.1 hg
  have hzb := stN_bnd (show stN (objA l x.o) = some z from hz)
  have hzv : (stA l x.o).getD (-1) = z := by rw [hz]; rfl
  have hv2 : ¬ (stA l x.o).getD (-1) < 0 := by rw [hzv]; omega
  by_cases hb : x.k = 6 ∧ ¬ mayS_ md i x.o (objA l x.o) ∨ x.k = 7 ∧ stA l x.o ≠ some 2
  · rw [show (invA l i x md m).2 = 232 by unfold invA; rw [if_neg n1, if_neg (not_not_intro hs), if_neg n3, if_pos hb]]
    rcases hb with ⟨hk6, hb⟩ | ⟨hk7, hb⟩
    · have hz0 : (stA l x.o).getD (-1) ≠ 0 := fun e => hb (.inr (by rw [hzv] at e; exact e ▸ hz))
      by_cases h3 : md = 3
      · exact rin_b6b h0 i x md m h1 h2 hx hm _ hcn _ hs1 hs' _ hc hcb _ hs2 hk6 hv2 hz0 h3 fun e => hb (.inl ⟨h3, e⟩)
      · exact rin_b6a h0 i x md m h1 h2 hx hm _ hcn _ hs1 hs' _ hc hcb _ hs2 hk6 hv2 hz0 h3
    · exact rin_b7 h0 i x md m h1 h2 hx hm _ hcn _ hs1 hs' _ hc hcb _ hs2 hk7 hv2 fun e => hb (by rw [hzv] at e; rw [hz, e])
  obtain ⟨ji, hji, hjl⟩ := stA_in (os := l) (i := i) (by rw [hs]; simp)
  obtain ⟨jt, hjt, hjtl⟩ := stA_in (os := l) (i := x.o) hg
  subst hji
  have hs2 : ∀ W, Below w.heap.size w W → Calls Tryd.prog 29 #[.slice A l.length cap, .int .i64 (jt : Int)] W fun e w' => e = .returned (.int .i64 ((stA l x.o).getD (-1))) ∧ Below W.heap.size W w' := fun W hb => rst_any (hr.below hb) rfl (jt : Int) (by rw [hjt])
  have hu : l[ji]? = some l[ji] := List.getElem?_eq_getElem hjl
  have hvv : l[jt]? = some l[jt] := List.getElem?_eq_getElem hjtl
  have hou := objA_in l ji hjl
  have hov : objA l x.o = l[jt] := by rw [hjt]; exact objA_in l jt hjtl
  have hul := (hok _ (List.getElem_mem hjl)).2.2.1
  have hvl := (hok _ (List.getElem_mem hjtl)).2.2.1
  by_cases hca : x.k = 7 ∧ (objA l x.o).l = 4294967295 ∨ md = 1 ∧ (objA l (ji : Int)).l = 4294967295
  · rw [show (invA l (ji : Int) x md m).2 = 233 by unfold invA; rw [if_neg n1, if_neg (not_not_intro hs), if_neg n3, if_neg hb, if_pos hca]]
    rw [hov, hou] at hca
    by_cases hk7 : x.k = 7
    · have hz2 : (stA l x.o).getD (-1) = 2 := by
        by_cases e : stA l x.o = some 2
        · rw [e]; rfl
        · exact absurd (.inr ⟨hk7, e⟩) hb
      by_cases hlv : 4294967295 ≤ l[jt].l
      · exact rin_v7 hr rfl hl ji hjl _ hu jt hjtl _ hvv x hjt md m h1 h2 hx hm _ hcn _ hs1 hs' (hcb ▸ hc) _ hs2 hv2 hk7 hz2 hlv
      · rcases hca with ⟨_, e⟩ | ⟨hmd, e⟩
        · omega
        · exact rin_u7 hr rfl hl ji hjl _ hu jt hjtl _ hvv x hjt md m h1 h2 hx hm _ hcn _ hs1 hs' (hcb ▸ hc) _ hs2 hv2 hk7 hz2 hlv hmd (by omega)
    · have hk6 : x.k = 6 := hk.resolve_right hk7
      rcases hca with ⟨e, _⟩ | ⟨hmd, e⟩
      · exact absurd e hk7
      · have hz0 : (stA l x.o).getD (-1) = 0 := by
          by_cases q : mayS_ md (ji : Int) x.o (objA l x.o)
          · rcases q with ⟨q, _⟩ | q
            · omega
            · rw [show stA l x.o = some 0 from q]; rfl
          · exact absurd (.inl ⟨hk6, q⟩) hb
        exact rin_u6 hr rfl hl ji hjl _ hu jt hjtl _ hvv x hjt md m h1 h2 hx hm _ hcn _ hs1 hs' (hcb ▸ hc) _ hs2 hv2 hk6 hz0 hmd (by omega)
  · exact absurd (show (invA l (ji : Int) x md m).2 = 0 by unfold invA; rw [if_neg n1, if_neg (not_not_intro hs), if_neg n3, if_neg hb, if_neg hca]) hne
end
end Go.Proofs.YtljfddeolapeaaaDoor

/- the document's layer 13: Invoke where it goes, of any list. -/
namespace Go.Proofs.YtljfddeolapeaaaDoor
open List renaming getElem_toArray → zq1, getElem_cons_succ → zq2, getElem_cons_zero → zq3, setIfInBounds_toArray → zq4, set_cons_zero → zq5, set_cons_succ → zq6
open Go.RowKit
set_option maxRecDepth 8000 in
theorem num_key {y : Ky} (h : y.ok) (hk : y.k = 1) : y = nmk y.v := by
  obtain ⟨k, a, b, c, d, e⟩ := y
  obtain ⟨n, h0, h1, h2, h3, h4, h5, h6, h7, h8, h9, _⟩ := h
  simp only at hk h0 h2 h3 h4 h5 h6 h7 h8 h9
  subst hk
  have hn : n = 1 := by omega
  subst hn
  have q1 : kOid 1 = 0 := by decide
  have q2 : kCnt 1 = 0 := by decide
  have q3 : kCall 1 = 0 := by decide
  have q4 : kRts 1 = 0 := by decide
  have a0 : a = 0 := by omega
  have b0 : b = 0 := by omega
  have c0 : c = 0 := by omega
  have d0 : d = 0 := by omega
  subst a0 b0 c0 d0
  rfl
set_option maxRecDepth 8000 in
theorem slotAs_self (u : Oj) (i : Nat) (hi : i < 16) : slotAs u i (slt u i) = u := oj_ext rfl rfl rfl (by
  show u.s.set i (slt u i) = u.s
  unfold slt
  have h : i < u.s.length := by rw [u.hs]; exact hi
  rw [List.getElem?_eq_getElem h, Option.getD_some, List.set_getElem_self]) rfl
/-- who is come to, behind what going does -/
def o1O (l : List Oj) (ji jt : Nat) (hi : ji < l.length) (ht : jt < l.length) (y : Ky) : Oj := if jt = ji then slotAs l[ji] 2 y else l[jt]
set_option maxRecDepth 8000 in
theorem set_o1 {l : List Oj} {ji jt : Nat} (hi : ji < l.length) (ht : jt < l.length) (y : Ky) : (l.set ji (slotAs l[ji] 2 y))[jt]? = some (o1O l ji jt hi ht y) := by
  unfold o1O
  by_cases e : jt = ji
  · subst e
    rw [if_pos rfl, List.getElem?_set_self hi]
  · rw [if_neg e, List.getElem?_set_ne (fun q => e q.symm), List.getElem?_eq_getElem ht]
set_option maxRecDepth 8000 in
theorem o1_l (l : List Oj) (ji jt : Nat) (hi : ji < l.length) (ht : jt < l.length) {y : Ky} : (o1O l ji jt hi ht y).l = l[jt].l := by
  unfold o1O
  by_cases e : jt = ji
  · subst e
    rw [if_pos rfl]
    rfl
  · rw [if_neg e]
set_option maxRecDepth 8000 in
theorem fin6 {l : List Oj} {ji jt : Nat} (hi : ji < l.length) (ht : jt < l.length) (y : Ky) (M : Mg) (k : Ky) (md : Int) (hg : goO md l[ji] = slotAs l[ji] 2 y) : (l.set ji (slotAs l[ji] 2 y)).set jt (handO (o1O l ji jt hi ht y) M k) = (l.set ji (goO md l[ji])).set jt (handO (toO 6 l[jt]) M k) := by
  rw [hg, show toO 6 l[jt] = l[jt] from if_neg (by decide)]
  unfold o1O
  by_cases e : jt = ji
  · subst e
    rw [if_pos rfl, hand_slot2]
  · rw [if_neg e]
set_option maxRecDepth 8000 in
theorem fin7 {l : List Oj} {ji jt : Nat} (hi : ji < l.length) (ht : jt < l.length) (y : Ky) (M : Mg) (k : Ky) (md : Int) (hg : goO md l[ji] = slotAs l[ji] 2 y) : ((l.set ji (slotAs l[ji] 2 y)).set jt (callsAs (o1O l ji jt hi ht y) ((o1O l ji jt hi ht y).l + 1))).set jt (handO (callsAs (o1O l ji jt hi ht y) ((o1O l ji jt hi ht y).l + 1)) M k) = (l.set ji (goO md l[ji])).set jt (handO (toO 7 l[jt]) M k) := by
  rw [hg, show toO 7 l[jt] = callsAs l[jt] (l[jt].l + 1) from if_pos rfl, List.set_set, o1_l]
  unfold o1O
  by_cases e : jt = ji
  · subst e
    rw [if_pos rfl, slot2_calls, hand_slot2]
  · rw [if_neg e]
section
variable {w : World} {A : Option Addr} {cap n : Nat} {l : List Oj}
set_option maxRecDepth 8000 in
theorem rin_yes (hr : RdO w A l) (hn : l.length = n) (hl : n ≤ 1000) (h0 : 0 < n) (hok : okAll n l) (i : Int) (x : Ky) (md : Int) (m : Mg) (hv : (invA l i x md m).2 = 0) : Calls Tryd.prog 23 #[.slice A n cap, .int .i64 i, x.val, .int .i64 md, m.val] w fun e w' => ∃ g c, e = .returned (.tuple #[.slice (some ⟨g, 0, none⟩) n c, .int .i64 0]) ∧ w.heap.size ≤ g ∧ RdO w' (some ⟨g, 0, none⟩) (invA l i x md m).1 ∧ Below w.heap.size w w' := by
  subst hn
  have hcn : ∀ W, Below w.heap.size w W → Calls Tryd.prog 57 #[.slice A l.length cap, m.val] W fun e w' => e = .returned (cntM l m).val ∧ Below W.heap.size W w' := fun W hb => rcntd (hr.below hb) rfl hl h0 m
  have hs1 : ∀ W, Below w.heap.size w W → Calls Tryd.prog 29 #[.slice A l.length cap, .int .i64 i] W fun e w' => e = .returned (.int .i64 ((stA l i).getD (-1))) ∧ Below W.heap.size W w' := fun W hb => rst_any (hr.below hb) rfl i rfl
  have n1 : ¬ (¬ (1 ≤ md ∧ md ≤ 3) ∨ ¬ x.may l.length ∨ ¬ mayM l m) := fun q => absurd hv (by unfold invA; rw [if_pos q]; simp)
  have h1 : ¬ md < 1 := fun q => n1 (.inl (by omega))
  have h2 : ¬ 3 < md := fun q => n1 (.inl (by omega))
  have hx : x.may l.length := by
    by_cases q : x.may l.length
    · exact q
    · exact absurd (.inr (.inl q)) n1
  have hm : mayM l m := by
    by_cases q : mayM l m
    · exact q
    · exact absurd (.inr (.inr q)) n1
  have hs : stA l i = some 1 := by
    by_cases q : stA l i = some 1
    · exact q
    · exact absurd hv (by unfold invA; rw [if_neg n1, if_pos q]; simp)
  have hs' : (stA l i).getD (-1) = 1 := by rw [hs]; rfl
  have n3 : ¬ ¬ ((named l x).isSome = true ∧ (x.k = 6 ∨ x.k = 7) ∧ stA l x.o ≠ none) := fun q => absurd hv (by unfold invA; rw [if_neg n1, if_neg (not_not_intro hs), if_pos q]; simp)
  obtain ⟨hcb, hk, hg⟩ := Classical.not_not.1 n3
  have hc' : ∀ W, Below w.heap.size w W → Calls Tryd.prog 58 #[.slice A l.length cap, x.val] W fun e w' => e = .returned (.bool true) ∧ Below W.heap.size W w' := fun W hb => rcn_n (hr.below hb) rfl hl x hcb
  obtain ⟨z, hz⟩ : ∃ z, stA l x.o = some z := Option.ne_none_iff_exists'.1 hg
  have hzb := stN_bnd (show stN (objA l x.o) = some z from hz)
  have hzv : (stA l x.o).getD (-1) = z := by rw [hz]; rfl
  have hv2 : ¬ (stA l x.o).getD (-1) < 0 := by rw [hzv]; omega
  have nb : ¬ (x.k = 6 ∧ ¬ mayS_ md i x.o (objA l x.o) ∨ x.k = 7 ∧ stA l x.o ≠ some 2) := fun q => absurd hv (by unfold invA; rw [if_neg n1, if_neg (not_not_intro hs), if_neg n3, if_pos q]; simp)
  have nc : ¬ (x.k = 7 ∧ (objA l x.o).l = 4294967295 ∨ md = 1 ∧ (objA l i).l = 4294967295) := fun q => absurd hv (by unfold invA; rw [if_neg n1, if_neg (not_not_intro hs), if_neg n3, if_neg nb, if_pos q]; simp)
  have e : (invA l i x md m).1 = (l.set i.toNat (goO md (objA l i))).set x.o.toNat (handO (toO x.k (objA l x.o)) (cntM l m) (ansK md i (objA l i))) := by unfold invA; rw [if_neg n1, if_neg (not_not_intro hs), if_neg n3, if_neg nb, if_neg nc]
  rw [e]
  obtain ⟨ji, hji, hjl⟩ := stA_in (os := l) (i := i) (by rw [hs]; simp)
  obtain ⟨jt, hjt, hjtl⟩ := stA_in (os := l) (i := x.o) hg
  subst hji
  have hs2 : ∀ W, Below w.heap.size w W → Calls Tryd.prog 29 #[.slice A l.length cap, .int .i64 (jt : Int)] W fun e w' => e = .returned (.int .i64 ((stA l x.o).getD (-1))) ∧ Below W.heap.size W w' := fun W hb => rst_any (hr.below hb) rfl (jt : Int) (by rw [hjt])
  have hu : l[ji]? = some l[ji] := List.getElem?_eq_getElem hjl
  have hvv : l[jt]? = some l[jt] := List.getElem?_eq_getElem hjtl
  have hou := objA_in l ji hjl
  have hov : objA l x.o = l[jt] := by rw [hjt]; exact objA_in l jt hjtl
  have hoku := hok _ (List.getElem_mem hjl)
  have hul := hoku.2.2.1
  have hvl := (hok _ (List.getElem_mem hjtl)).2.2.1
  have hsu : stN l[ji] = some 1 := by have : stN (objA l (ji : Int)) = some 1 := hs; rwa [hou] at this
  have huk : l[ji].k = 1 := stN_k (by rw [hsu]; simp)
  have hslot : slt l[ji] 2 = nmk 1 := by
    unfold stN at hsu
    split at hsu
    · next q =>
      injection hsu with hsu
      have hmem : slt l[ji] 2 ∈ l[ji].s := by
        have h2 : 2 < l[ji].s.length := by rw [l[ji].hs]; decide
        unfold slt
        rw [List.getElem?_eq_getElem h2, Option.getD_some]
        exact List.getElem_mem h2
      rw [num_key (node_may hoku huk _ hmem).1 q.2.1, hsu]
    · cases hsu
  have hself : slotAs l[ji] 2 (nmk 1) = l[ji] := by
    rw [← hslot]
    exact slotAs_self _ 2 (by decide)
  have hbe : ∀ s : Int, 0 ≤ s → s ≤ 2 → ∀ W, Below w.heap.size w W → Calls Tryd.prog 27 #[.slice A l.length cap, .int .i64 (ji : Int), .int .i64 s] W fun e w' => ∃ g c, e = .returned (.tuple #[.slice (some ⟨g, 0, none⟩) l.length c, .int .i64 0]) ∧ W.heap.size ≤ g ∧ RdO w' (some ⟨g, 0, none⟩) (l.set ji (slotAs l[ji] 2 (nmk s))) ∧ Below W.heap.size W w' := fun s q1 q2 W hb => rbe_y (hr.below hb) rfl hl ji hjl _ hu s huk (by omega) (by omega)
  rw [hov, hou, hjt, Int.toNat_natCast, Int.toNat_natCast]
  rw [hov, hou] at nc
  have hgo : ∀ s : Int, (md = 1 ∧ s = 2) ∨ (md = 2 ∧ s = 1) ∨ (md = 3 ∧ s = 0) → goO md l[ji] = slotAs l[ji] 2 (nmk s) := by
    rintro s (⟨rfl, rfl⟩ | ⟨rfl, rfl⟩ | ⟨rfl, rfl⟩)
    · exact if_pos rfl
    · rw [hself]; rfl
    · rfl
  rcases hk with hk | hk
  · rw [hk]
    have hz0 : ¬ (md = 3 ∧ jt = ji) → (stA l x.o).getD (-1) = 0 := fun hne => by
      by_cases q : mayS_ md (ji : Int) x.o (objA l x.o)
      · rcases q with ⟨q, q'⟩ | q
        · exact absurd ⟨q, by omega⟩ hne
        · rw [show stA l x.o = some 0 from q]; rfl
      · exact absurd (.inl ⟨hk, q⟩) nb
    rcases (show md = 1 ∨ md = 2 ∨ md = 3 by omega) with hmd | hmd | hmd
    · rw [← fin6 hjl hjtl (nmk 2) (cntM l m) _ md (hgo 2 (.inl ⟨hmd, rfl⟩)), show ansK md (ji : Int) l[ji] = ⟨7, (ji : Int), l[ji].c, l[ji].l, 0, 0⟩ from if_pos hmd]
      exact rin_ok61 hr rfl hl ji hjl _ hu jt hjtl _ hvv x hjt md m h1 h2 hx hm _ hcn _ hs1 hs' hc' _ hs2 hv2 hk (hz0 (by omega)) (fun q => nc (.inr ⟨hmd, by omega⟩)) hmd hm.1 _ (by rw [List.length_set]) _ (set_o1 hjl hjtl _) (hbe 2 (by decide) (by decide))
    · rw [← fin6 hjl hjtl (nmk 1) (cntM l m) _ md (hgo 1 (.inr (.inl ⟨hmd, rfl⟩))), show ansK md (ji : Int) l[ji] = zk from if_neg (by omega)]
      exact rin_ok62 hr rfl hl ji hjl _ hu jt hjtl _ hvv x hjt md m h1 h2 hx hm _ hcn _ hs1 hs' hc' _ hs2 hv2 hk (hz0 (by omega)) hmd hm.1 _ (by rw [List.length_set]) _ (set_o1 hjl hjtl _) (hbe 1 (by decide) (by decide))
    · rw [← fin6 hjl hjtl (nmk 0) (cntM l m) _ md (hgo 0 (.inr (.inr ⟨hmd, rfl⟩))), show ansK md (ji : Int) l[ji] = zk from if_neg (by omega)]
      by_cases hz00 : (stA l x.o).getD (-1) = 0
      · exact rin_ok63 hr rfl hl ji hjl _ hu jt hjtl _ hvv x hjt md m h1 h2 hx hm _ hcn _ hs1 hs' hc' _ hs2 hv2 hk hz00 hmd hm.1 _ (by rw [List.length_set]) _ (set_o1 hjl hjtl _) (hbe 0 (by decide) (by decide))
      · have hxi : jt = ji := by
          by_cases q : jt = ji
          · exact q
          · exact absurd (hz0 fun p => q p.2) hz00
        exact rin_ok6s hr rfl hl ji hjl _ hu jt hjtl _ hvv x hjt md m h1 h2 hx hm _ hcn _ hs1 hs' hc' _ hs2 hv2 hk hz00 hxi hmd hm.1 _ (by rw [List.length_set]) _ (set_o1 hjl hjtl _) (hbe 0 (by decide) (by decide))
  · rw [hk]
    have hz2 : (stA l x.o).getD (-1) = 2 := by
      by_cases q : stA l x.o = some 2
      · rw [q]; rfl
      · exact absurd (.inr ⟨hk, q⟩) nb
    have hlv : ¬ 4294967295 ≤ l[jt].l := fun q => nc (.inl ⟨hk, by omega⟩)
    rcases (show md = 1 ∨ md = 2 ∨ md = 3 by omega) with hmd | hmd | hmd
    · rw [← fin7 hjl hjtl (nmk 2) (cntM l m) _ md (hgo 2 (.inl ⟨hmd, rfl⟩)), show ansK md (ji : Int) l[ji] = ⟨7, (ji : Int), l[ji].c, l[ji].l, 0, 0⟩ from if_pos hmd]
      exact rin_ok71 hr rfl hl ji hjl _ hu jt hjtl _ hvv x hjt md m h1 h2 hx hm _ hcn _ hs1 hs' hc' _ hs2 hv2 hk hz2 hlv (fun q => nc (.inr ⟨hmd, by omega⟩)) hmd hm.1 _ (by rw [List.length_set]) _ (set_o1 hjl hjtl _) (hbe 2 (by decide) (by decide)) (wrap64 (by rw [o1_l l ji jt hjl hjtl]; omega))
    · rw [← fin7 hjl hjtl (nmk 1) (cntM l m) _ md (hgo 1 (.inr (.inl ⟨hmd, rfl⟩))), show ansK md (ji : Int) l[ji] = zk from if_neg (by omega)]
      exact rin_ok72 hr rfl hl ji hjl _ hu jt hjtl _ hvv x hjt md m h1 h2 hx hm _ hcn _ hs1 hs' hc' _ hs2 hv2 hk hz2 hlv hmd hm.1 _ (by rw [List.length_set]) _ (set_o1 hjl hjtl _) (hbe 1 (by decide) (by decide)) (wrap64 (by rw [o1_l l ji jt hjl hjtl]; omega))
    · rw [← fin7 hjl hjtl (nmk 0) (cntM l m) _ md (hgo 0 (.inr (.inr ⟨hmd, rfl⟩))), show ansK md (ji : Int) l[ji] = zk from if_neg (by omega)]
      exact rin_ok73 hr rfl hl ji hjl _ hu jt hjtl _ hvv x hjt md m h1 h2 hx hm _ hcn _ hs1 hs' hc' _ hs2 hv2 hk hz2 hlv hmd hm.1 _ (by rw [List.length_set]) _ (set_o1 hjl hjtl _) (hbe 0 (by decide) (by decide)) (wrap64 (by rw [o1_l l ji jt hjl hjtl]; omega))
end
end Go.Proofs.YtljfddeolapeaaaDoor

/- the document's layer 13: Running. -/
namespace Go.Proofs.YtljfddeolapeaaaDoor
open List renaming getElem_toArray → zq1, getElem_cons_succ → zq2, getElem_cons_zero → zq3, setIfInBounds_toArray → zq4, set_cons_zero → zq5, set_cons_succ → zq6
open Go.RowKit
attribute [local go_sem] Oper.semAt_some
/-- who runs, of the first k -/
def runK (os : List Oj) (k : Nat) : List Nat := (List.range k).filter fun i => decide (stA os (i : Int) = some 1)
set_option maxRecDepth 8000 in
theorem runK_len (os : List Oj) (k : Nat) : (runK os k).length ≤ k := by
  have := List.length_filter_le (fun (i : Nat) => decide (stA os (i : Int) = some 1)) (List.range k)
  simpa [runK] using this
set_option maxRecDepth 8000 in
theorem runK_yes {os : List Oj} {k : Nat} (h : stA os (k : Int) = some 1) : runK os (k + 1) = runK os k ++ [k] := by simp [runK, List.range_succ, h]
set_option maxRecDepth 8000 in
theorem runK_no {os : List Oj} {k : Nat} (h : ¬ stA os (k : Int) = some 1) : runK os (k + 1) = runK os k := by simp [runK, List.range_succ, h]
section
variable {w : World} {A : Option Addr} {cap n : Nat} {l : List Oj}
set_option maxRecDepth 100000 in
set_option maxHeartbeats 2000000 in
theorem rrun_any (hr : RdO w A l) (hn : l.length = n) (hl : n ≤ 1000) : Calls Tryd.prog 31 #[.slice A n cap] w fun e w' => ∃ v, e = .returned v ∧ w'.ownsRow w.heap.size 3 1 v (runA l).length (dv (runA l)) ∧ Below w.heap.size w w' := by
  have HR := Lib.hid hr
  have HNN := Lib.hid hn
  have HLL := Lib.hid hl
  have H0 : Hid (w.ownsRow w.heap.size 3 1 (.slice none 0 0) (runK l 0).length (dv (runK l 0))) := Lib.hid ⟨rfl, .inl ⟨rfl, rfl⟩⟩
  clear hr
  go_enter Tryd.func31, Tryd.ntmps31
  go_wp2_with fail
  go_loopw [3, 4] (fun v q wr => ∃ k : Nat, k ≤ n ∧ q = .int .i64 k ∧ wr.ownsRow w.heap.size 3 1 v (runK l k).length (dv (runK l k)) ∧ Below w.heap.size w wr) (fun _ q _ => n + 1 - (intOf q).toNat)
  case atStart => exact ⟨0, by omega, rfl, H0.out, Below.refl _ _⟩
  case round =>
    obtain ⟨k, hk, rfl, ho, hb⟩ := hrel
    have HO := Lib.hid ho
    have HB := Lib.hid hb
    clear ho hb
    by_cases hlt : k < n
    · have d0 : decide ((k : Int) < (n : Int)) = true := decide_eq_true (by omega)
      have HLT := Lib.hid hlt
      by_cases hs : stA l (k : Int) = some 1
      · have HS := Lib.hid (show (stA l (k : Int)).getD (-1) = 1 by rw [hs]; rfl)
        have HRK := Lib.hid (runK_yes hs)
        clear hs hlt
        go_wp2_with (first
          | (go_at_call 29; refine (rst_any (HR.out.below HB.out) HNN.out (k : Int) HS.out).mono ?_; rintro e w1 ⟨rfl, b1⟩; have HB1 := Lib.hid (HB.out.trans (b1.mono HB.out.size)); have HO1 := Lib.hid (own_below HO.out b1); clear b1)
          | (refine wpList_append_int rfl (.tmp 15) (.tmp 17) rfl (by rfl) HO1.out (k : Int) (by rfl) (by have := runK_len l k; have := HLL.out; have := HLT.out; omega) HB1.out.size ?_; intro g c w3 h1 b3; have HO3 := Lib.hid h1; have HB3 := Lib.hid (HB1.out.trans b3); clear h1 b3))
        go_roundw
        case rel =>
          have e1 : (runK l k ++ [k]).length = (runK l k).length + 1 := by simp
          have e2 : dv (runK l k ++ [k]) = dv (runK l k) ++ [.int .i64 (k : Int)] := by simp [dv]
          exact ⟨k + 1, by have := HLT.out; omega, by go_num, by rw [HRK.out, e1, e2]; exact HO3.out, HB3.out⟩
        case measure => simp [intOf]; omega
      · obtain ⟨v1, hv1⟩ : ∃ v1, (stA l (k : Int)).getD (-1) = v1 := ⟨_, rfl⟩
        have hne : v1 ≠ 1 := by
          rintro rfl
          cases h : stA l (k : Int) with
          | none => rw [h] at hv1; exact absurd hv1 (by decide)
          | some z => rw [h, Option.getD_some] at hv1; exact hs (by rw [h, hv1])
        have dv1 : (v1 == 1) = false := by simpa using hne
        have HS := Lib.hid hv1
        have HRK := Lib.hid (runK_no hs)
        clear hs hlt hv1 hne
        go_wp2_with (first
          | (go_at_call 29; refine (rst_any (HR.out.below HB.out) HNN.out (k : Int) HS.out).mono ?_; rintro e w1 ⟨rfl, b1⟩; have HB1 := Lib.hid (HB.out.trans (b1.mono HB.out.size)); have HO1 := Lib.hid (own_below HO.out b1); clear b1))
        go_roundw
        case rel => exact ⟨k + 1, by have := HLT.out; omega, by go_num, by rw [HRK.out]; exact HO1.out, HB1.out⟩
        case measure => simp [intOf]; omega
    · have hkn : k = n := by omega
      subst hkn
      have d0 : decide ((k : Int) < (k : Int)) = false := decide_eq_false (by omega)
      have e : runA l = runK l k := by unfold runA runK; rw [HNN.out]
      have HE := Lib.hid e
      clear e
      go_wp2_with fail
      go_ret
      refine ⟨_, rfl, ?_, HB.out⟩
      rw [HE.out]
      exact HO.out
end
end Go.Proofs.YtljfddeolapeaaaDoor

/- the document's layer 13: Told. -/
namespace Go.Proofs.YtljfddeolapeaaaDoor
open List renaming getElem_toArray → zq1, getElem_cons_succ → zq2, getElem_cons_zero → zq3, setIfInBounds_toArray → zq4, set_cons_zero → zq5, set_cons_succ → zq6
open Go.RowKit
attribute [local go_sem] Oper.semAt_some
set_option maxRecDepth 8000 in
theorem built3k (a b c : Ky) : Tryd.prog.built 36 [(0, a.val), (1, b.val), (2, c.val)] = some (kcs [a, b, c]).toArray := by kernel_rfl
/-- a message of a code, data, keys -/
def kMc (c : Int) (d : List UInt8) (x y z : Ky) : Mg := ⟨c, d, [x, y, z], rfl⟩
theorem kmc_setc {w : World} {g : Nat} {t : TypeId} {c : Int} {d : List UInt8} {x y z : Ky} (h : Blk w g t (kMc c d x y z).cells.toArray) (e : Int) : Blk (w.setCell ⟨g, 0, none⟩ (.int .i64 e)) g t (kMc e d x y z).cells.toArray := h.set_ 0 (.int .i64 e)
theorem kmc_setd {w : World} {g : Nat} {t : TypeId} {c : Int} {d : List UInt8} {x y z : Ky} (h : Blk w g t (kMc c d x y z).cells.toArray) (e : List UInt8) : Blk (w.setCell ⟨g, 1, none⟩ (.string (st e))) g t (kMc c e x y z).cells.toArray := h.set_ 1 (.string (st e))
set_option maxRecDepth 8000 in
theorem rd_bytes {w : World} {g : Nat} {u : Oj} (h : ObAt w g 0 u) {n : Nat} (hn : n ≤ 63) : Rd w (some ⟨g, 100, none⟩) ((u.b.drop 1).take n) := fun j hj => by
  have hj' : j < 63 := by
    rw [List.length_take, List.length_drop, u.hb] at hj
    omega
  refine ⟨g, 100, rfl, ?_⟩
  have := byte_of_range h.bytes (1 + j) (by rw [u.hb]; omega)
  rw [show 100 + j = 0 + 99 + (1 + j) by omega, this]
  simp [Nat.add_comm]
set_option maxRecDepth 8000 in
theorem tolM_of {l : List Oj} {u : Oj} {c : Int} {d : List UInt8} (hc : codK (slt u 3) = c) (hd : datB u.b = d) : cntM l (kMc c d (slt u 12) (slt u 13) (slt u 14)) = tolM l u := by
  subst hc hd
  rfl
set_option maxRecDepth 8000 in
theorem builtKM (a b c : Ky) : Tryd.prog.built 38 [(2, .agg (kcs [a, b, c]).toArray)] = some (kMc 0 [] a b c).cells.toArray := by kernel_rfl
set_option maxRecDepth 8000 in
theorem slot_at {w : World} {g : Nat} {u : Oj} (h : ObAt w g 0 u) {i : Nat} (hi : i < 16) : KeyAt w g (3 + i * 6) (slt u i) := by
  obtain ⟨y, hy, hk⟩ := h.slot hi
  rw [slt_get hy]
  rwa [Nat.zero_add] at hk
section
variable {w : World} {A : Option Addr} {cap n : Nat} {l : List Oj}
set_option maxRecDepth 100000 in
set_option maxHeartbeats 2000000 in
theorem rto_no (hr : RdO w A l) (hn : l.length = n) (h0 : 0 < n) (i : Int) (hs : stA l i = none) : Calls Tryd.prog 30 #[.slice A n cap, .int .i64 i] w fun e w' => e = .returned (.tuple #[mz.val, .int .i64 230]) ∧ Below w.heap.size w w' := by
  have hz := zM
  have hzl := mz.len
  have dn : decide ((n : Int) = 0) = false := decide_eq_false (by omega)
  have dn' : ((n : Int) == 0) = false := by simp; omega
  have HB0 := Lib.hid ((Below.refl w.heap.size w).alloc (Nat.le_refl _) (.cells mz.cells.toArray 38))
  have HR0 := Lib.hid (Blk.new w 38 mz.cells.toArray)
  have HR := Lib.hid hr
  have HNN := Lib.hid hn
  have HV := Lib.hid (show (stA l i).getD (-1) = -1 by rw [hs]; rfl)
  clear hr hs h0
  go_enter Tryd.func30, Tryd.ntmps30
  go_wp2_with (first
    | (go_at_call 29; refine (rst_any (HR.out.below HB0.out) HNN.out _ HV.out).mono ?_; rintro e w1 ⟨rfl, b_⟩; have HB1 := Lib.hid (HB0.out.trans (b_.mono HB0.out.size)); have HR1 := Lib.hid (HR0.out.keep b_); clear b_)
    | ((with_reducible show wpList _ _ _ (Oper.mk (some 17) (.build _ _) _ _ _ _ :: _) _ _); refine wpList_yields (S := fun _ => True) (y_build (by rfl) (by rfl) builtM) trivial ?_)
    | ((with_reducible show wpList _ _ _ (Oper.mk none (.store _ (.tmp 4) (.tmp 17)) _ _ _ _ :: _) _ _); refine wpList_store_big (l0 := mz.cells) (l := mz.cells) HR1.out rfl (.tmp 4) (.tmp 17) (ty := 38) rfl (by rfl) (by rfl) (by rw [Mg.len]; exact sizeM) rfl (Mg.one _) ?_))
  exact bodyPost_ret (res_1t rfl _ _ w.heap.size _ _ rfl rfl (load_mg (HR1.out.setRow _))) rfl ⟨rfl, below_setRow HB1.out (Nat.le_refl _) _⟩
set_option maxRecDepth 100000 in
set_option maxHeartbeats 2000000 in
theorem rto_a (hr : RdO w A l) (hn : l.length = n) (hl : n ≤ 1000) (h0 : 0 < n) (j : Nat) (hj : j < n) (u : Oj) (hu : l[j]? = some u) (v : Int) (hv : (stA l (j : Int)).getD (-1) = v) (hv0 : ¬ v < 0) (hk : (slt u 3).k = 1) (hd : ((u.b[0]?).getD 0).toNat ≤ 32) : Calls Tryd.prog 30 #[.slice A n cap, .int .i64 (j : Int)] w fun e w' => e = .returned (.tuple #[(tolM l u).val, .int .i64 0]) ∧ Below w.heap.size w w' := by
  have hz34 := z34
  have hol := oz_len
  have hz := zM
  have hzl := mz.len
  have dn : decide ((n : Int) = 0) = false := decide_eq_false (by omega)
  have dn' : ((n : Int) == 0) = false := by simp; omega
  have HB0 := Lib.hid ((Below.refl w.heap.size w).alloc (Nat.le_refl _) (.cells mz.cells.toArray 38))
  have HR0 := Lib.hid (Blk.new w 38 mz.cells.toArray)
  have HR := Lib.hid hr
  have HNN := Lib.hid hn
  obtain ⟨b, off, rfl, hob⟩ := hr j (by omega)
  have hu' : l[j] = u := by rw [List.getElem?_eq_getElem (by omega)] at hu; exact Option.some.inj hu
  rw [hu'] at hob
  have HO := Lib.hid hob
  have HV := Lib.hid hv
  have HLL := Lib.hid hl
  have H0 := Lib.hid h0
  have dv : decide (v < 0) = false := decide_eq_false hv0
  have i1 : (0 : Int) ≤ (j : Int) := by omega
  have i2 : (j : Int) < (n : Int) := by omega
  have hb0 : 0 < u.b.length := by rw [u.hb]; decide
  have HB00 := Lib.hid hb0
  have HBE := Lib.hid (show (u.b[0]?).getD 0 = u.b[0] by rw [List.getElem?_eq_getElem hb0]; rfl)
  have hcl := (tolM l u).len
  have dk : ((slt u 3).k == 1) = true := by simpa using hk
  have d32 : decide ((((u.b[0]?).getD 0).toNat : Int) ≤ 32) = true := decide_eq_true (by omega)
  have hwn : IntKind.i64.wrap (((u.b[0]?).getD 0).toNat : Int) = (((u.b[0]?).getD 0).toNat : Int) := wrap64 (by have := ((u.b[0]?).getD 0).toNat_lt; omega)
  have H63 := Lib.hid (show ((u.b[0]?).getD 0).toNat ≤ 63 by omega)
  have hw1 : IntKind.i64.wrap (1 + (((u.b[0]?).getD 0).toNat : Int)) = 1 + (((u.b[0]?).getD 0).toNat : Int) := wrap64 (by omega)
  have h33 : ∀ (g : Nat) (W : World), (Instr.sliceAt 54 (.pointer (some ⟨g, 99, none⟩)) (some (.int .i64 1)) (some (.int .i64 (1 + (((u.b[0]?).getD 0).toNat : Int)))) none).run Tryd.prog W = .ok (.slice (some ⟨g, 100, none⟩) ((u.b[0]?).getD 0).toNat 63) W := fun g W => cut1n g 99 _ (by omega) W
  have HL := Lib.hid (show ((u.b.drop 1).take ((u.b[0]?).getD 0).toNat).length = ((u.b[0]?).getD 0).toNat by rw [List.length_take, List.length_drop, u.hb]; omega)
  obtain ⟨dd, hdd⟩ : ∃ dd, (u.b.drop 1).take ((u.b[0]?).getD 0).toNat = dd := ⟨_, rfl⟩
  have HDD := Lib.hid hdd
  rw [hdd] at HL
  have HFM : Hid (cntM l (kMc (slt u 3).v dd (slt u 12) (slt u 13) (slt u 14)) = tolM l u) := Lib.hid (tolM_of (if_pos hk) ((if_pos hd).trans hdd))
  clear hdd
  clear hr hob hu hu' hv hv0 hk hd hb0 h0
  go_enter Tryd.func30, Tryd.ntmps30
  go_wp2_with (first
    | (go_at_call 29; refine (rst_any (HR.out.below HB0.out) HNN.out _ HV.out).mono ?_; rintro e w1 ⟨rfl, b_⟩; have HB1 := Lib.hid (HB0.out.trans (b_.mono HB0.out.size)); have HR1 := Lib.hid (HR0.out.keep b_); clear b_)
    | ((with_reducible show wpList _ _ _ (Oper.mk (some 21) (.load _ _) _ _ _ _ :: _) _ _); refine wpList_yields (S := fun w' => ObAt w' b (off + j * 163) u) (y_ob (by rfl) (.tmp 20) (by rfl) b (off + j * 163) (by rfl) u (fun _ h => h)) (HO.out.below HB1.out) ?_)
    | ((with_reducible show wpList _ _ _ (Oper.mk none (.store _ (.tmp 6) (.tmp 21)) _ _ _ _ :: _) _ _); refine wpList_store_last rfl (.tmp 6) (.tmp 21) rfl w1.heap.size rfl (by rfl) u oz (by rfl) ?_; have HO1 := Lib.hid (Blk.new w1 56 u.cells.toArray); have HR1u := Lib.hid (HR1.out.alloc (.cells u.cells.toArray 56)); have HB1u := Lib.hid (HB1.out.alloc HB1.out.size (.cells u.cells.toArray 56)); have HG1 := Lib.hid (show w.heap.size < w1.heap.size from HR1.out.lt))
    | ((with_reducible show wpList _ _ _ (Oper.mk (some 24) (.load _ _) _ _ _ _ :: _) _ _); refine wpList_yields (S := fun w' => KeyAt w' w1.heap.size 75 (slt u 12)) (y_kyJ (by rfl) (.tmp 23) (by rfl) w1.heap.size 75 (by rfl) (slt u 12) (fun _ h => h)) (slot_at HO1.out.ob (i := 12) (by decide)) ?_)
    | ((with_reducible show wpList _ _ _ (Oper.mk (some 27) (.load _ _) _ _ _ _ :: _) _ _); refine wpList_yields (S := fun w' => KeyAt w' w1.heap.size 81 (slt u 13)) (y_kyJ (by rfl) (.tmp 26) (by rfl) w1.heap.size 81 (by rfl) (slt u 13) (fun _ h => h)) (slot_at HO1.out.ob (i := 13) (by decide)) ?_)
    | ((with_reducible show wpList _ _ _ (Oper.mk (some 30) (.load _ _) _ _ _ _ :: _) _ _); refine wpList_yields (S := fun w' => KeyAt w' w1.heap.size 87 (slt u 14)) (y_kyJ (by rfl) (.tmp 29) (by rfl) w1.heap.size 87 (by rfl) (slt u 14) (fun _ h => h)) (slot_at HO1.out.ob (i := 14) (by decide)) ?_)
    | ((with_reducible show wpList _ _ _ (Oper.mk (some 31) (.build _ _) _ _ _ _ :: _) _ _); refine wpList_yields (S := fun _ => True) (y_bl3 (by rfl) (.tmp 24) (.tmp 27) (.tmp 30) (by rfl) (by rfl) (by rfl) (by rfl) (built3k (slt u 12) (slt u 13) (slt u 14))) trivial ?_)
    | ((with_reducible show wpList _ _ _ (Oper.mk (some 32) (.build _ _) _ _ _ _ :: _) _ _); refine wpList_yields (S := fun _ => True) (y_bl1J (by rfl) (.tmp 31) (by rfl) (by rfl) (builtKM (slt u 12) (slt u 13) (slt u 14))) trivial ?_)
    | ((with_reducible show wpList _ _ _ (Oper.mk none (.store _ (.tmp 7) (.tmp 32)) _ _ _ _ :: _) _ _); refine wpList_store_new (l := (kMc 0 [] (slt u 12) (slt u 13) (slt u 14)).cells) (l0 := mz.cells) (ty := 38) rfl (.tmp 7) (.tmp 32) (by rfl) (w1.heap.size + 1) (by simp) (by rfl) (by rfl) (by rw [Mg.len]; exact sizeM) (by rw [Mg.len, Mg.len]) (Mg.one _) ?_; have HO2 := Lib.hid (HO1.out.alloc (.cells (kMc 0 [] (slt u 12) (slt u 13) (slt u 14)).cells.toArray 38)); have HR2 := Lib.hid (HR1u.out.alloc (.cells (kMc 0 [] (slt u 12) (slt u 13) (slt u 14)).cells.toArray 38)); have HB2 := Lib.hid (HB1u.out.alloc HB1u.out.size (.cells (kMc 0 [] (slt u 12) (slt u 13) (slt u 14)).cells.toArray 38)); have HM2 := Lib.hid (Blk.new_of (w1.alloc (.cells u.cells.toArray 56)) 38 (kMc 0 [] (slt u 12) (slt u 13) (slt u 14)).cells.toArray (g := w1.heap.size + 1) (by simp)); generalize (w1.alloc (.cells u.cells.toArray 56)).alloc (.cells (kMc 0 [] (slt u 12) (slt u 13) (slt u 14)).cells.toArray 38) = w2 at HO2 HR2 HB2 HM2 ⊢; have HSK : KeyAt w2 w1.heap.size 21 (slt u 3) := slot_at HO2.out.ob (i := 3) (by decide); obtain ⟨k0, _, _, _, _, k5⟩ := HSK; have m0 : w2.cell? ⟨w1.heap.size + 1, 0, none⟩ = some (.int .i64 0) := HM2.out.cell 0; have f0 : w2.frozen? ⟨w1.heap.size + 1, 0, none⟩ = false := HM2.out.frozen 0; have HM3 := Lib.hid (kmc_setc HM2.out (slt u 3).v); have HO3 : Hid (Blk (w2.setCell ⟨w1.heap.size + 1, 0, none⟩ (.int .i64 (slt u 3).v)) w1.heap.size 56 u.cells.toArray) := Lib.hid (HO2.out.far (by simp) _); have HR3 : Hid (Blk (w2.setCell ⟨w1.heap.size + 1, 0, none⟩ (.int .i64 (slt u 3).v)) w.heap.size 38 mz.cells.toArray) := Lib.hid (HR2.out.far (by have := HG1.out; simp; omega) _); have HB3 : Hid (Below w.heap.size w (w2.setCell ⟨w1.heap.size + 1, 0, none⟩ (.int .i64 (slt u 3).v))) := Lib.hid (HB2.out.setCell (p := ⟨w1.heap.size + 1, 0, none⟩) (by have := HG1.out; simp; omega) _); have b0 : (w2.setCell ⟨w1.heap.size + 1, 0, none⟩ (.int .i64 (slt u 3).v)).cell? ⟨w1.heap.size, 99, none⟩ = some (.int .u8 (((u.b[0]?).getD 0).toNat : Int)) := (by rw [HBE.out]; exact byte_of_range HO3.out.ob.bytes 0 HB00.out); have m1 : (w2.setCell ⟨w1.heap.size + 1, 0, none⟩ (.int .i64 (slt u 3).v)).cell? ⟨w1.heap.size + 1, 1, none⟩ = some (.string (st [])) := HM3.out.cell 1; have f1 : (w2.setCell ⟨w1.heap.size + 1, 0, none⟩ (.int .i64 (slt u 3).v)).frozen? ⟨w1.heap.size + 1, 1, none⟩ = false := HM3.out.frozen 1; have HRD := Lib.hid (HDD.out ▸ rd_bytes HO3.out.ob H63.out); have HM4 := Lib.hid (kmc_setd HM3.out dd); have HR4 : Hid (Blk ((w2.setCell ⟨w1.heap.size + 1, 0, none⟩ (.int .i64 (slt u 3).v)).setCell ⟨w1.heap.size + 1, 1, none⟩ (.string (st dd))) w.heap.size 38 mz.cells.toArray) := Lib.hid (HR3.out.far (by have := HG1.out; simp; omega) _); have HB4 : Hid (Below w.heap.size w ((w2.setCell ⟨w1.heap.size + 1, 0, none⟩ (.int .i64 (slt u 3).v)).setCell ⟨w1.heap.size + 1, 1, none⟩ (.string (st dd)))) := Lib.hid (HB3.out.setCell (p := ⟨w1.heap.size + 1, 1, none⟩) (by have := HG1.out; simp; omega) _))
    | ((with_reducible show wpList _ _ _ (Oper.mk (some 53) (.convert _ _ _) _ _ _ _ :: _) _ _); refine wpList_yields (S := fun w' => Rd w' (some ⟨w1.heap.size, 100, none⟩) dd) (y_cstrJ (by rfl) (.tmp 52) (by rfl) (some ⟨w1.heap.size, 100, none⟩) ((u.b[0]?).getD 0).toNat 63 dd (by rfl) HL.out (fun _ h => h)) HRD.out ?_)
    | ((with_reducible show wpList _ _ _ (Oper.mk (some 56) (.load _ _) _ _ _ _ :: _) _ _); refine wpList_yields (S := fun w' => MgAt w' (w1.heap.size + 1) 0 (kMc (slt u 3).v dd (slt u 12) (slt u 13) (slt u 14))) (y_mg (by rfl) (.tmp 7) (by rfl) (w1.heap.size + 1) 0 (by rfl) (kMc (slt u 3).v dd (slt u 12) (slt u 13) (slt u 14)) (fun _ h => h)) HM4.out.mg ?_)
    | (go_at_call 57; refine (rcntd (HR.out.below HB4.out) HNN.out HLL.out H0.out (kMc (slt u 3).v dd (slt u 12) (slt u 13) (slt u 14))).mono ?_; rintro e w5 ⟨rfl, b_⟩; have HB5 := Lib.hid (HB4.out.trans (b_.mono HB4.out.size)); have HR5 := Lib.hid (HR4.out.keep b_); rw [HFM.out]; clear b_)
    | ((with_reducible show wpList _ _ _ (Oper.mk none (.store _ (.tmp 4) (.tmp 57)) _ _ _ _ :: _) _ _); refine wpList_store_big (l0 := mz.cells) (l := (tolM l u).cells) HR5.out rfl (.tmp 4) (.tmp 57) (ty := 38) rfl (by rfl) (by rfl) (by rw [Mg.len]; exact sizeM) (by rw [Mg.len, Mg.len]) (Mg.one _) ?_))
  exact bodyPost_ret (res_1t rfl _ _ w.heap.size _ _ rfl rfl (load_mg (HR5.out.setRow _))) rfl ⟨rfl, below_setRow HB5.out (Nat.le_refl _) _⟩
set_option maxRecDepth 100000 in
set_option maxHeartbeats 2000000 in
theorem rto_b (hr : RdO w A l) (hn : l.length = n) (hl : n ≤ 1000) (h0 : 0 < n) (j : Nat) (hj : j < n) (u : Oj) (hu : l[j]? = some u) (v : Int) (hv : (stA l (j : Int)).getD (-1) = v) (hv0 : ¬ v < 0) (hk : (slt u 3).k = 1) (hd : ¬ ((u.b[0]?).getD 0).toNat ≤ 32) : Calls Tryd.prog 30 #[.slice A n cap, .int .i64 (j : Int)] w fun e w' => e = .returned (.tuple #[(tolM l u).val, .int .i64 0]) ∧ Below w.heap.size w w' := by
  have hz34 := z34
  have hol := oz_len
  have hz := zM
  have hzl := mz.len
  have dn : decide ((n : Int) = 0) = false := decide_eq_false (by omega)
  have dn' : ((n : Int) == 0) = false := by simp; omega
  have HB0 := Lib.hid ((Below.refl w.heap.size w).alloc (Nat.le_refl _) (.cells mz.cells.toArray 38))
  have HR0 := Lib.hid (Blk.new w 38 mz.cells.toArray)
  have HR := Lib.hid hr
  have HNN := Lib.hid hn
  obtain ⟨b, off, rfl, hob⟩ := hr j (by omega)
  have hu' : l[j] = u := by rw [List.getElem?_eq_getElem (by omega)] at hu; exact Option.some.inj hu
  rw [hu'] at hob
  have HO := Lib.hid hob
  have HV := Lib.hid hv
  have HLL := Lib.hid hl
  have H0 := Lib.hid h0
  have dv : decide (v < 0) = false := decide_eq_false hv0
  have i1 : (0 : Int) ≤ (j : Int) := by omega
  have i2 : (j : Int) < (n : Int) := by omega
  have hb0 : 0 < u.b.length := by rw [u.hb]; decide
  have HB00 := Lib.hid hb0
  have HBE := Lib.hid (show (u.b[0]?).getD 0 = u.b[0] by rw [List.getElem?_eq_getElem hb0]; rfl)
  have hcl := (tolM l u).len
  have dk : ((slt u 3).k == 1) = true := by simpa using hk
  have d32 : decide ((((u.b[0]?).getD 0).toNat : Int) ≤ 32) = false := decide_eq_false (by omega)
  have hwn : IntKind.i64.wrap (((u.b[0]?).getD 0).toNat : Int) = (((u.b[0]?).getD 0).toNat : Int) := wrap64 (by have := ((u.b[0]?).getD 0).toNat_lt; omega)
  have HFM : Hid (cntM l (kMc (slt u 3).v [] (slt u 12) (slt u 13) (slt u 14)) = tolM l u) := Lib.hid (tolM_of (if_pos hk) (if_neg hd))
  clear hr hob hu hu' hv hv0 hk hd hb0 h0
  go_enter Tryd.func30, Tryd.ntmps30
  go_wp2_with (first
    | (go_at_call 29; refine (rst_any (HR.out.below HB0.out) HNN.out _ HV.out).mono ?_; rintro e w1 ⟨rfl, b_⟩; have HB1 := Lib.hid (HB0.out.trans (b_.mono HB0.out.size)); have HR1 := Lib.hid (HR0.out.keep b_); clear b_)
    | ((with_reducible show wpList _ _ _ (Oper.mk (some 21) (.load _ _) _ _ _ _ :: _) _ _); refine wpList_yields (S := fun w' => ObAt w' b (off + j * 163) u) (y_ob (by rfl) (.tmp 20) (by rfl) b (off + j * 163) (by rfl) u (fun _ h => h)) (HO.out.below HB1.out) ?_)
    | ((with_reducible show wpList _ _ _ (Oper.mk none (.store _ (.tmp 6) (.tmp 21)) _ _ _ _ :: _) _ _); refine wpList_store_last rfl (.tmp 6) (.tmp 21) rfl w1.heap.size rfl (by rfl) u oz (by rfl) ?_; have HO1 := Lib.hid (Blk.new w1 56 u.cells.toArray); have HR1u := Lib.hid (HR1.out.alloc (.cells u.cells.toArray 56)); have HB1u := Lib.hid (HB1.out.alloc HB1.out.size (.cells u.cells.toArray 56)); have HG1 := Lib.hid (show w.heap.size < w1.heap.size from HR1.out.lt))
    | ((with_reducible show wpList _ _ _ (Oper.mk (some 24) (.load _ _) _ _ _ _ :: _) _ _); refine wpList_yields (S := fun w' => KeyAt w' w1.heap.size 75 (slt u 12)) (y_kyJ (by rfl) (.tmp 23) (by rfl) w1.heap.size 75 (by rfl) (slt u 12) (fun _ h => h)) (slot_at HO1.out.ob (i := 12) (by decide)) ?_)
    | ((with_reducible show wpList _ _ _ (Oper.mk (some 27) (.load _ _) _ _ _ _ :: _) _ _); refine wpList_yields (S := fun w' => KeyAt w' w1.heap.size 81 (slt u 13)) (y_kyJ (by rfl) (.tmp 26) (by rfl) w1.heap.size 81 (by rfl) (slt u 13) (fun _ h => h)) (slot_at HO1.out.ob (i := 13) (by decide)) ?_)
    | ((with_reducible show wpList _ _ _ (Oper.mk (some 30) (.load _ _) _ _ _ _ :: _) _ _); refine wpList_yields (S := fun w' => KeyAt w' w1.heap.size 87 (slt u 14)) (y_kyJ (by rfl) (.tmp 29) (by rfl) w1.heap.size 87 (by rfl) (slt u 14) (fun _ h => h)) (slot_at HO1.out.ob (i := 14) (by decide)) ?_)
    | ((with_reducible show wpList _ _ _ (Oper.mk (some 31) (.build _ _) _ _ _ _ :: _) _ _); refine wpList_yields (S := fun _ => True) (y_bl3 (by rfl) (.tmp 24) (.tmp 27) (.tmp 30) (by rfl) (by rfl) (by rfl) (by rfl) (built3k (slt u 12) (slt u 13) (slt u 14))) trivial ?_)
    | ((with_reducible show wpList _ _ _ (Oper.mk (some 32) (.build _ _) _ _ _ _ :: _) _ _); refine wpList_yields (S := fun _ => True) (y_bl1J (by rfl) (.tmp 31) (by rfl) (by rfl) (builtKM (slt u 12) (slt u 13) (slt u 14))) trivial ?_)
    | ((with_reducible show wpList _ _ _ (Oper.mk none (.store _ (.tmp 7) (.tmp 32)) _ _ _ _ :: _) _ _); refine wpList_store_new (l := (kMc 0 [] (slt u 12) (slt u 13) (slt u 14)).cells) (l0 := mz.cells) (ty := 38) rfl (.tmp 7) (.tmp 32) (by rfl) (w1.heap.size + 1) (by simp) (by rfl) (by rfl) (by rw [Mg.len]; exact sizeM) (by rw [Mg.len, Mg.len]) (Mg.one _) ?_; have HO2 := Lib.hid (HO1.out.alloc (.cells (kMc 0 [] (slt u 12) (slt u 13) (slt u 14)).cells.toArray 38)); have HR2 := Lib.hid (HR1u.out.alloc (.cells (kMc 0 [] (slt u 12) (slt u 13) (slt u 14)).cells.toArray 38)); have HB2 := Lib.hid (HB1u.out.alloc HB1u.out.size (.cells (kMc 0 [] (slt u 12) (slt u 13) (slt u 14)).cells.toArray 38)); have HM2 := Lib.hid (Blk.new_of (w1.alloc (.cells u.cells.toArray 56)) 38 (kMc 0 [] (slt u 12) (slt u 13) (slt u 14)).cells.toArray (g := w1.heap.size + 1) (by simp)); generalize (w1.alloc (.cells u.cells.toArray 56)).alloc (.cells (kMc 0 [] (slt u 12) (slt u 13) (slt u 14)).cells.toArray 38) = w2 at HO2 HR2 HB2 HM2 ⊢; have HSK : KeyAt w2 w1.heap.size 21 (slt u 3) := slot_at HO2.out.ob (i := 3) (by decide); obtain ⟨k0, _, _, _, _, k5⟩ := HSK; have m0 : w2.cell? ⟨w1.heap.size + 1, 0, none⟩ = some (.int .i64 0) := HM2.out.cell 0; have f0 : w2.frozen? ⟨w1.heap.size + 1, 0, none⟩ = false := HM2.out.frozen 0; have HM3 := Lib.hid (kmc_setc HM2.out (slt u 3).v); have HO3 : Hid (Blk (w2.setCell ⟨w1.heap.size + 1, 0, none⟩ (.int .i64 (slt u 3).v)) w1.heap.size 56 u.cells.toArray) := Lib.hid (HO2.out.far (by simp) _); have HR3 : Hid (Blk (w2.setCell ⟨w1.heap.size + 1, 0, none⟩ (.int .i64 (slt u 3).v)) w.heap.size 38 mz.cells.toArray) := Lib.hid (HR2.out.far (by have := HG1.out; simp; omega) _); have HB3 : Hid (Below w.heap.size w (w2.setCell ⟨w1.heap.size + 1, 0, none⟩ (.int .i64 (slt u 3).v))) := Lib.hid (HB2.out.setCell (p := ⟨w1.heap.size + 1, 0, none⟩) (by have := HG1.out; simp; omega) _); have b0 : (w2.setCell ⟨w1.heap.size + 1, 0, none⟩ (.int .i64 (slt u 3).v)).cell? ⟨w1.heap.size, 99, none⟩ = some (.int .u8 (((u.b[0]?).getD 0).toNat : Int)) := (by rw [HBE.out]; exact byte_of_range HO3.out.ob.bytes 0 HB00.out); have HM4 := HM3; have HR4 := HR3; have HB4 := HB3)
    | ((with_reducible show wpList _ _ _ (Oper.mk (some 56) (.load _ _) _ _ _ _ :: _) _ _); refine wpList_yields (S := fun w' => MgAt w' (w1.heap.size + 1) 0 (kMc (slt u 3).v [] (slt u 12) (slt u 13) (slt u 14))) (y_mg (by rfl) (.tmp 7) (by rfl) (w1.heap.size + 1) 0 (by rfl) (kMc (slt u 3).v [] (slt u 12) (slt u 13) (slt u 14)) (fun _ h => h)) HM4.out.mg ?_)
    | (go_at_call 57; refine (rcntd (HR.out.below HB4.out) HNN.out HLL.out H0.out (kMc (slt u 3).v [] (slt u 12) (slt u 13) (slt u 14))).mono ?_; rintro e w5 ⟨rfl, b_⟩; have HB5 := Lib.hid (HB4.out.trans (b_.mono HB4.out.size)); have HR5 := Lib.hid (HR4.out.keep b_); rw [HFM.out]; clear b_)
    | ((with_reducible show wpList _ _ _ (Oper.mk none (.store _ (.tmp 4) (.tmp 57)) _ _ _ _ :: _) _ _); refine wpList_store_big (l0 := mz.cells) (l := (tolM l u).cells) HR5.out rfl (.tmp 4) (.tmp 57) (ty := 38) rfl (by rfl) (by rfl) (by rw [Mg.len]; exact sizeM) (by rw [Mg.len, Mg.len]) (Mg.one _) ?_))
  exact bodyPost_ret (res_1t rfl _ _ w.heap.size _ _ rfl rfl (load_mg (HR5.out.setRow _))) rfl ⟨rfl, below_setRow HB5.out (Nat.le_refl _) _⟩
set_option maxRecDepth 100000 in
set_option maxHeartbeats 2000000 in
theorem rto_c (hr : RdO w A l) (hn : l.length = n) (hl : n ≤ 1000) (h0 : 0 < n) (j : Nat) (hj : j < n) (u : Oj) (hu : l[j]? = some u) (v : Int) (hv : (stA l (j : Int)).getD (-1) = v) (hv0 : ¬ v < 0) (hk : (slt u 3).k ≠ 1) (hd : ((u.b[0]?).getD 0).toNat ≤ 32) : Calls Tryd.prog 30 #[.slice A n cap, .int .i64 (j : Int)] w fun e w' => e = .returned (.tuple #[(tolM l u).val, .int .i64 0]) ∧ Below w.heap.size w w' := by
  have hz34 := z34
  have hol := oz_len
  have hz := zM
  have hzl := mz.len
  have dn : decide ((n : Int) = 0) = false := decide_eq_false (by omega)
  have dn' : ((n : Int) == 0) = false := by simp; omega
  have HB0 := Lib.hid ((Below.refl w.heap.size w).alloc (Nat.le_refl _) (.cells mz.cells.toArray 38))
  have HR0 := Lib.hid (Blk.new w 38 mz.cells.toArray)
  have HR := Lib.hid hr
  have HNN := Lib.hid hn
  obtain ⟨b, off, rfl, hob⟩ := hr j (by omega)
  have hu' : l[j] = u := by rw [List.getElem?_eq_getElem (by omega)] at hu; exact Option.some.inj hu
  rw [hu'] at hob
  have HO := Lib.hid hob
  have HV := Lib.hid hv
  have HLL := Lib.hid hl
  have H0 := Lib.hid h0
  have dv : decide (v < 0) = false := decide_eq_false hv0
  have i1 : (0 : Int) ≤ (j : Int) := by omega
  have i2 : (j : Int) < (n : Int) := by omega
  have hb0 : 0 < u.b.length := by rw [u.hb]; decide
  have HB00 := Lib.hid hb0
  have HBE := Lib.hid (show (u.b[0]?).getD 0 = u.b[0] by rw [List.getElem?_eq_getElem hb0]; rfl)
  have hcl := (tolM l u).len
  have dk : ((slt u 3).k == 1) = false := by simpa using hk
  have d32 : decide ((((u.b[0]?).getD 0).toNat : Int) ≤ 32) = true := decide_eq_true (by omega)
  have hwn : IntKind.i64.wrap (((u.b[0]?).getD 0).toNat : Int) = (((u.b[0]?).getD 0).toNat : Int) := wrap64 (by have := ((u.b[0]?).getD 0).toNat_lt; omega)
  have H63 := Lib.hid (show ((u.b[0]?).getD 0).toNat ≤ 63 by omega)
  have hw1 : IntKind.i64.wrap (1 + (((u.b[0]?).getD 0).toNat : Int)) = 1 + (((u.b[0]?).getD 0).toNat : Int) := wrap64 (by omega)
  have h33 : ∀ (g : Nat) (W : World), (Instr.sliceAt 54 (.pointer (some ⟨g, 99, none⟩)) (some (.int .i64 1)) (some (.int .i64 (1 + (((u.b[0]?).getD 0).toNat : Int)))) none).run Tryd.prog W = .ok (.slice (some ⟨g, 100, none⟩) ((u.b[0]?).getD 0).toNat 63) W := fun g W => cut1n g 99 _ (by omega) W
  have HL := Lib.hid (show ((u.b.drop 1).take ((u.b[0]?).getD 0).toNat).length = ((u.b[0]?).getD 0).toNat by rw [List.length_take, List.length_drop, u.hb]; omega)
  obtain ⟨dd, hdd⟩ : ∃ dd, (u.b.drop 1).take ((u.b[0]?).getD 0).toNat = dd := ⟨_, rfl⟩
  have HDD := Lib.hid hdd
  rw [hdd] at HL
  have HFM : Hid (cntM l (kMc 0 dd (slt u 12) (slt u 13) (slt u 14)) = tolM l u) := Lib.hid (tolM_of (if_neg hk) ((if_pos hd).trans hdd))
  clear hdd
  clear hr hob hu hu' hv hv0 hk hd hb0 h0
  go_enter Tryd.func30, Tryd.ntmps30
  go_wp2_with (first
    | (go_at_call 29; refine (rst_any (HR.out.below HB0.out) HNN.out _ HV.out).mono ?_; rintro e w1 ⟨rfl, b_⟩; have HB1 := Lib.hid (HB0.out.trans (b_.mono HB0.out.size)); have HR1 := Lib.hid (HR0.out.keep b_); clear b_)
    | ((with_reducible show wpList _ _ _ (Oper.mk (some 21) (.load _ _) _ _ _ _ :: _) _ _); refine wpList_yields (S := fun w' => ObAt w' b (off + j * 163) u) (y_ob (by rfl) (.tmp 20) (by rfl) b (off + j * 163) (by rfl) u (fun _ h => h)) (HO.out.below HB1.out) ?_)
    | ((with_reducible show wpList _ _ _ (Oper.mk none (.store _ (.tmp 6) (.tmp 21)) _ _ _ _ :: _) _ _); refine wpList_store_last rfl (.tmp 6) (.tmp 21) rfl w1.heap.size rfl (by rfl) u oz (by rfl) ?_; have HO1 := Lib.hid (Blk.new w1 56 u.cells.toArray); have HR1u := Lib.hid (HR1.out.alloc (.cells u.cells.toArray 56)); have HB1u := Lib.hid (HB1.out.alloc HB1.out.size (.cells u.cells.toArray 56)); have HG1 := Lib.hid (show w.heap.size < w1.heap.size from HR1.out.lt))
    | ((with_reducible show wpList _ _ _ (Oper.mk (some 24) (.load _ _) _ _ _ _ :: _) _ _); refine wpList_yields (S := fun w' => KeyAt w' w1.heap.size 75 (slt u 12)) (y_kyJ (by rfl) (.tmp 23) (by rfl) w1.heap.size 75 (by rfl) (slt u 12) (fun _ h => h)) (slot_at HO1.out.ob (i := 12) (by decide)) ?_)
    | ((with_reducible show wpList _ _ _ (Oper.mk (some 27) (.load _ _) _ _ _ _ :: _) _ _); refine wpList_yields (S := fun w' => KeyAt w' w1.heap.size 81 (slt u 13)) (y_kyJ (by rfl) (.tmp 26) (by rfl) w1.heap.size 81 (by rfl) (slt u 13) (fun _ h => h)) (slot_at HO1.out.ob (i := 13) (by decide)) ?_)
    | ((with_reducible show wpList _ _ _ (Oper.mk (some 30) (.load _ _) _ _ _ _ :: _) _ _); refine wpList_yields (S := fun w' => KeyAt w' w1.heap.size 87 (slt u 14)) (y_kyJ (by rfl) (.tmp 29) (by rfl) w1.heap.size 87 (by rfl) (slt u 14) (fun _ h => h)) (slot_at HO1.out.ob (i := 14) (by decide)) ?_)
    | ((with_reducible show wpList _ _ _ (Oper.mk (some 31) (.build _ _) _ _ _ _ :: _) _ _); refine wpList_yields (S := fun _ => True) (y_bl3 (by rfl) (.tmp 24) (.tmp 27) (.tmp 30) (by rfl) (by rfl) (by rfl) (by rfl) (built3k (slt u 12) (slt u 13) (slt u 14))) trivial ?_)
    | ((with_reducible show wpList _ _ _ (Oper.mk (some 32) (.build _ _) _ _ _ _ :: _) _ _); refine wpList_yields (S := fun _ => True) (y_bl1J (by rfl) (.tmp 31) (by rfl) (by rfl) (builtKM (slt u 12) (slt u 13) (slt u 14))) trivial ?_)
    | ((with_reducible show wpList _ _ _ (Oper.mk none (.store _ (.tmp 7) (.tmp 32)) _ _ _ _ :: _) _ _); refine wpList_store_new (l := (kMc 0 [] (slt u 12) (slt u 13) (slt u 14)).cells) (l0 := mz.cells) (ty := 38) rfl (.tmp 7) (.tmp 32) (by rfl) (w1.heap.size + 1) (by simp) (by rfl) (by rfl) (by rw [Mg.len]; exact sizeM) (by rw [Mg.len, Mg.len]) (Mg.one _) ?_; have HO2 := Lib.hid (HO1.out.alloc (.cells (kMc 0 [] (slt u 12) (slt u 13) (slt u 14)).cells.toArray 38)); have HR2 := Lib.hid (HR1u.out.alloc (.cells (kMc 0 [] (slt u 12) (slt u 13) (slt u 14)).cells.toArray 38)); have HB2 := Lib.hid (HB1u.out.alloc HB1u.out.size (.cells (kMc 0 [] (slt u 12) (slt u 13) (slt u 14)).cells.toArray 38)); have HM2 := Lib.hid (Blk.new_of (w1.alloc (.cells u.cells.toArray 56)) 38 (kMc 0 [] (slt u 12) (slt u 13) (slt u 14)).cells.toArray (g := w1.heap.size + 1) (by simp)); generalize (w1.alloc (.cells u.cells.toArray 56)).alloc (.cells (kMc 0 [] (slt u 12) (slt u 13) (slt u 14)).cells.toArray 38) = w2 at HO2 HR2 HB2 HM2 ⊢; have HSK : KeyAt w2 w1.heap.size 21 (slt u 3) := slot_at HO2.out.ob (i := 3) (by decide); obtain ⟨k0, _, _, _, _, k5⟩ := HSK; have m0 : w2.cell? ⟨w1.heap.size + 1, 0, none⟩ = some (.int .i64 0) := HM2.out.cell 0; have f0 : w2.frozen? ⟨w1.heap.size + 1, 0, none⟩ = false := HM2.out.frozen 0; have HM3 := HM2; have HO3 := HO2; have HR3 := HR2; have HB3 := HB2; have b0 : w2.cell? ⟨w1.heap.size, 99, none⟩ = some (.int .u8 (((u.b[0]?).getD 0).toNat : Int)) := (by rw [HBE.out]; exact byte_of_range HO3.out.ob.bytes 0 HB00.out); have m1 : w2.cell? ⟨w1.heap.size + 1, 1, none⟩ = some (.string (st [])) := HM3.out.cell 1; have f1 : w2.frozen? ⟨w1.heap.size + 1, 1, none⟩ = false := HM3.out.frozen 1; have HRD := Lib.hid (HDD.out ▸ rd_bytes HO3.out.ob H63.out); have HM4 := Lib.hid (kmc_setd HM3.out dd); have HR4 : Hid (Blk (w2.setCell ⟨w1.heap.size + 1, 1, none⟩ (.string (st dd))) w.heap.size 38 mz.cells.toArray) := Lib.hid (HR3.out.far (by have := HG1.out; simp; omega) _); have HB4 : Hid (Below w.heap.size w (w2.setCell ⟨w1.heap.size + 1, 1, none⟩ (.string (st dd)))) := Lib.hid (HB3.out.setCell (p := ⟨w1.heap.size + 1, 1, none⟩) (by have := HG1.out; simp; omega) _))
    | ((with_reducible show wpList _ _ _ (Oper.mk (some 53) (.convert _ _ _) _ _ _ _ :: _) _ _); refine wpList_yields (S := fun w' => Rd w' (some ⟨w1.heap.size, 100, none⟩) dd) (y_cstrJ (by rfl) (.tmp 52) (by rfl) (some ⟨w1.heap.size, 100, none⟩) ((u.b[0]?).getD 0).toNat 63 dd (by rfl) HL.out (fun _ h => h)) HRD.out ?_)
    | ((with_reducible show wpList _ _ _ (Oper.mk (some 56) (.load _ _) _ _ _ _ :: _) _ _); refine wpList_yields (S := fun w' => MgAt w' (w1.heap.size + 1) 0 (kMc 0 dd (slt u 12) (slt u 13) (slt u 14))) (y_mg (by rfl) (.tmp 7) (by rfl) (w1.heap.size + 1) 0 (by rfl) (kMc 0 dd (slt u 12) (slt u 13) (slt u 14)) (fun _ h => h)) HM4.out.mg ?_)
    | (go_at_call 57; refine (rcntd (HR.out.below HB4.out) HNN.out HLL.out H0.out (kMc 0 dd (slt u 12) (slt u 13) (slt u 14))).mono ?_; rintro e w5 ⟨rfl, b_⟩; have HB5 := Lib.hid (HB4.out.trans (b_.mono HB4.out.size)); have HR5 := Lib.hid (HR4.out.keep b_); rw [HFM.out]; clear b_)
    | ((with_reducible show wpList _ _ _ (Oper.mk none (.store _ (.tmp 4) (.tmp 57)) _ _ _ _ :: _) _ _); refine wpList_store_big (l0 := mz.cells) (l := (tolM l u).cells) HR5.out rfl (.tmp 4) (.tmp 57) (ty := 38) rfl (by rfl) (by rfl) (by rw [Mg.len]; exact sizeM) (by rw [Mg.len, Mg.len]) (Mg.one _) ?_))
  exact bodyPost_ret (res_1t rfl _ _ w.heap.size _ _ rfl rfl (load_mg (HR5.out.setRow _))) rfl ⟨rfl, below_setRow HB5.out (Nat.le_refl _) _⟩
set_option maxRecDepth 100000 in
set_option maxHeartbeats 2000000 in
theorem rto_d (hr : RdO w A l) (hn : l.length = n) (hl : n ≤ 1000) (h0 : 0 < n) (j : Nat) (hj : j < n) (u : Oj) (hu : l[j]? = some u) (v : Int) (hv : (stA l (j : Int)).getD (-1) = v) (hv0 : ¬ v < 0) (hk : (slt u 3).k ≠ 1) (hd : ¬ ((u.b[0]?).getD 0).toNat ≤ 32) : Calls Tryd.prog 30 #[.slice A n cap, .int .i64 (j : Int)] w fun e w' => e = .returned (.tuple #[(tolM l u).val, .int .i64 0]) ∧ Below w.heap.size w w' := by
  have hz34 := z34
  have hol := oz_len
  have hz := zM
  have hzl := mz.len
  have dn : decide ((n : Int) = 0) = false := decide_eq_false (by omega)
  have dn' : ((n : Int) == 0) = false := by simp; omega
  have HB0 := Lib.hid ((Below.refl w.heap.size w).alloc (Nat.le_refl _) (.cells mz.cells.toArray 38))
  have HR0 := Lib.hid (Blk.new w 38 mz.cells.toArray)
  have HR := Lib.hid hr
  have HNN := Lib.hid hn
  obtain ⟨b, off, rfl, hob⟩ := hr j (by omega)
  have hu' : l[j] = u := by rw [List.getElem?_eq_getElem (by omega)] at hu; exact Option.some.inj hu
  rw [hu'] at hob
  have HO := Lib.hid hob
  have HV := Lib.hid hv
  have HLL := Lib.hid hl
  have H0 := Lib.hid h0
  have dv : decide (v < 0) = false := decide_eq_false hv0
  have i1 : (0 : Int) ≤ (j : Int) := by omega
  have i2 : (j : Int) < (n : Int) := by omega
  have hb0 : 0 < u.b.length := by rw [u.hb]; decide
  have HB00 := Lib.hid hb0
  have HBE := Lib.hid (show (u.b[0]?).getD 0 = u.b[0] by rw [List.getElem?_eq_getElem hb0]; rfl)
  have hcl := (tolM l u).len
  have dk : ((slt u 3).k == 1) = false := by simpa using hk
  have d32 : decide ((((u.b[0]?).getD 0).toNat : Int) ≤ 32) = false := decide_eq_false (by omega)
  have hwn : IntKind.i64.wrap (((u.b[0]?).getD 0).toNat : Int) = (((u.b[0]?).getD 0).toNat : Int) := wrap64 (by have := ((u.b[0]?).getD 0).toNat_lt; omega)
  have HFM : Hid (cntM l (kMc 0 [] (slt u 12) (slt u 13) (slt u 14)) = tolM l u) := Lib.hid (tolM_of (if_neg hk) (if_neg hd))
  clear hr hob hu hu' hv hv0 hk hd hb0 h0
  go_enter Tryd.func30, Tryd.ntmps30
  go_wp2_with (first
    | (go_at_call 29; refine (rst_any (HR.out.below HB0.out) HNN.out _ HV.out).mono ?_; rintro e w1 ⟨rfl, b_⟩; have HB1 := Lib.hid (HB0.out.trans (b_.mono HB0.out.size)); have HR1 := Lib.hid (HR0.out.keep b_); clear b_)
    | ((with_reducible show wpList _ _ _ (Oper.mk (some 21) (.load _ _) _ _ _ _ :: _) _ _); refine wpList_yields (S := fun w' => ObAt w' b (off + j * 163) u) (y_ob (by rfl) (.tmp 20) (by rfl) b (off + j * 163) (by rfl) u (fun _ h => h)) (HO.out.below HB1.out) ?_)
    | ((with_reducible show wpList _ _ _ (Oper.mk none (.store _ (.tmp 6) (.tmp 21)) _ _ _ _ :: _) _ _); refine wpList_store_last rfl (.tmp 6) (.tmp 21) rfl w1.heap.size rfl (by rfl) u oz (by rfl) ?_; have HO1 := Lib.hid (Blk.new w1 56 u.cells.toArray); have HR1u := Lib.hid (HR1.out.alloc (.cells u.cells.toArray 56)); have HB1u := Lib.hid (HB1.out.alloc HB1.out.size (.cells u.cells.toArray 56)); have HG1 := Lib.hid (show w.heap.size < w1.heap.size from HR1.out.lt))
    | ((with_reducible show wpList _ _ _ (Oper.mk (some 24) (.load _ _) _ _ _ _ :: _) _ _); refine wpList_yields (S := fun w' => KeyAt w' w1.heap.size 75 (slt u 12)) (y_kyJ (by rfl) (.tmp 23) (by rfl) w1.heap.size 75 (by rfl) (slt u 12) (fun _ h => h)) (slot_at HO1.out.ob (i := 12) (by decide)) ?_)
    | ((with_reducible show wpList _ _ _ (Oper.mk (some 27) (.load _ _) _ _ _ _ :: _) _ _); refine wpList_yields (S := fun w' => KeyAt w' w1.heap.size 81 (slt u 13)) (y_kyJ (by rfl) (.tmp 26) (by rfl) w1.heap.size 81 (by rfl) (slt u 13) (fun _ h => h)) (slot_at HO1.out.ob (i := 13) (by decide)) ?_)
    | ((with_reducible show wpList _ _ _ (Oper.mk (some 30) (.load _ _) _ _ _ _ :: _) _ _); refine wpList_yields (S := fun w' => KeyAt w' w1.heap.size 87 (slt u 14)) (y_kyJ (by rfl) (.tmp 29) (by rfl) w1.heap.size 87 (by rfl) (slt u 14) (fun _ h => h)) (slot_at HO1.out.ob (i := 14) (by decide)) ?_)
    | ((with_reducible show wpList _ _ _ (Oper.mk (some 31) (.build _ _) _ _ _ _ :: _) _ _); refine wpList_yields (S := fun _ => True) (y_bl3 (by rfl) (.tmp 24) (.tmp 27) (.tmp 30) (by rfl) (by rfl) (by rfl) (by rfl) (built3k (slt u 12) (slt u 13) (slt u 14))) trivial ?_)
    | ((with_reducible show wpList _ _ _ (Oper.mk (some 32) (.build _ _) _ _ _ _ :: _) _ _); refine wpList_yields (S := fun _ => True) (y_bl1J (by rfl) (.tmp 31) (by rfl) (by rfl) (builtKM (slt u 12) (slt u 13) (slt u 14))) trivial ?_)
    | ((with_reducible show wpList _ _ _ (Oper.mk none (.store _ (.tmp 7) (.tmp 32)) _ _ _ _ :: _) _ _); refine wpList_store_new (l := (kMc 0 [] (slt u 12) (slt u 13) (slt u 14)).cells) (l0 := mz.cells) (ty := 38) rfl (.tmp 7) (.tmp 32) (by rfl) (w1.heap.size + 1) (by simp) (by rfl) (by rfl) (by rw [Mg.len]; exact sizeM) (by rw [Mg.len, Mg.len]) (Mg.one _) ?_; have HO2 := Lib.hid (HO1.out.alloc (.cells (kMc 0 [] (slt u 12) (slt u 13) (slt u 14)).cells.toArray 38)); have HR2 := Lib.hid (HR1u.out.alloc (.cells (kMc 0 [] (slt u 12) (slt u 13) (slt u 14)).cells.toArray 38)); have HB2 := Lib.hid (HB1u.out.alloc HB1u.out.size (.cells (kMc 0 [] (slt u 12) (slt u 13) (slt u 14)).cells.toArray 38)); have HM2 := Lib.hid (Blk.new_of (w1.alloc (.cells u.cells.toArray 56)) 38 (kMc 0 [] (slt u 12) (slt u 13) (slt u 14)).cells.toArray (g := w1.heap.size + 1) (by simp)); generalize (w1.alloc (.cells u.cells.toArray 56)).alloc (.cells (kMc 0 [] (slt u 12) (slt u 13) (slt u 14)).cells.toArray 38) = w2 at HO2 HR2 HB2 HM2 ⊢; have HSK : KeyAt w2 w1.heap.size 21 (slt u 3) := slot_at HO2.out.ob (i := 3) (by decide); obtain ⟨k0, _, _, _, _, k5⟩ := HSK; have m0 : w2.cell? ⟨w1.heap.size + 1, 0, none⟩ = some (.int .i64 0) := HM2.out.cell 0; have f0 : w2.frozen? ⟨w1.heap.size + 1, 0, none⟩ = false := HM2.out.frozen 0; have HM3 := HM2; have HO3 := HO2; have HR3 := HR2; have HB3 := HB2; have b0 : w2.cell? ⟨w1.heap.size, 99, none⟩ = some (.int .u8 (((u.b[0]?).getD 0).toNat : Int)) := (by rw [HBE.out]; exact byte_of_range HO3.out.ob.bytes 0 HB00.out); have HM4 := HM3; have HR4 := HR3; have HB4 := HB3)
    | ((with_reducible show wpList _ _ _ (Oper.mk (some 56) (.load _ _) _ _ _ _ :: _) _ _); refine wpList_yields (S := fun w' => MgAt w' (w1.heap.size + 1) 0 (kMc 0 [] (slt u 12) (slt u 13) (slt u 14))) (y_mg (by rfl) (.tmp 7) (by rfl) (w1.heap.size + 1) 0 (by rfl) (kMc 0 [] (slt u 12) (slt u 13) (slt u 14)) (fun _ h => h)) HM4.out.mg ?_)
    | (go_at_call 57; refine (rcntd (HR.out.below HB4.out) HNN.out HLL.out H0.out (kMc 0 [] (slt u 12) (slt u 13) (slt u 14))).mono ?_; rintro e w5 ⟨rfl, b_⟩; have HB5 := Lib.hid (HB4.out.trans (b_.mono HB4.out.size)); have HR5 := Lib.hid (HR4.out.keep b_); rw [HFM.out]; clear b_)
    | ((with_reducible show wpList _ _ _ (Oper.mk none (.store _ (.tmp 4) (.tmp 57)) _ _ _ _ :: _) _ _); refine wpList_store_big (l0 := mz.cells) (l := (tolM l u).cells) HR5.out rfl (.tmp 4) (.tmp 57) (ty := 38) rfl (by rfl) (by rfl) (by rw [Mg.len]; exact sizeM) (by rw [Mg.len, Mg.len]) (Mg.one _) ?_))
  exact bodyPost_ret (res_1t rfl _ _ w.heap.size _ _ rfl rfl (load_mg (HR5.out.setRow _))) rfl ⟨rfl, below_setRow HB5.out (Nat.le_refl _) _⟩
set_option maxRecDepth 8000 in
theorem rto_any (hr : RdO w A l) (hn : l.length = n) (hl : n ≤ 1000) (h0 : 0 < n) (i : Int) : Calls Tryd.prog 30 #[.slice A n cap, .int .i64 i] w fun e w' => e = .returned (.tuple #[(tolA l i).1.val, .int .i64 (tolA l i).2]) ∧ Below w.heap.size w w' := by
  unfold tolA
  cases hs : stA l i with
  | none =>
    rw [if_pos rfl]
    exact rto_no hr hn h0 i hs
  | some v =>
    rw [if_neg (by simp)]
    obtain ⟨j, rfl, hj⟩ := stA_in (os := l) (i := i) (by rw [hs]; simp)
    have hu : l[j]? = some (objA l (j : Int)) := by rw [objA_in l j hj, List.getElem?_eq_getElem hj]
    have hv : (stA l (j : Int)).getD (-1) = v := by rw [hs]; rfl
    have hv0 : ¬ v < 0 := by
      have := (stN_some (show stN (objA l (j : Int)) = some v from hs)).2.2.2.1
      omega
    by_cases hk : (slt (objA l (j : Int)) 3).k = 1
    · by_cases hd : (((objA l (j : Int)).b[0]?).getD 0).toNat ≤ 32
      · exact rto_a hr hn hl h0 j (by omega) _ hu v hv hv0 hk hd
      · exact rto_b hr hn hl h0 j (by omega) _ hu v hv hv0 hk hd
    · by_cases hd : (((objA l (j : Int)).b[0]?).getD 0).toNat ≤ 32
      · exact rto_c hr hn hl h0 j (by omega) _ hu v hv hv0 hk hd
      · exact rto_d hr hn hl h0 j (by omega) _ hu v hv hv0 hk hd
end
end Go.Proofs.YtljfddeolapeaaaDoor

/- law 13: same. -/
namespace Go.Proofs.YtljfddeolapeaaaDoor
open List renaming getElem_toArray → zq1, getElem_cons_succ → zq2, getElem_cons_zero → zq3, setIfInBounds_toArray → zq4, set_cons_zero → zq5, set_cons_succ → zq6
open Go.RowKit Go.Shelf
attribute [local go_sem] Oper.semAt_some
theorem keeps_drew {B : Nat} {W W' : World} (h : KeepsFrom B W W') : KeepsFrom B W W'.drew := ⟨h.size, h.same⟩
section
variable {w : World} {base p : Nat} {A : Option Addr} {cap : Nat} {ps : List Nat} {os : List Oj}
set_option maxRecDepth 100000 in
set_option maxHeartbeats 4000000 in
theorem same_at (h : StAt w base p A cap ps os) (hN : 0 < os.length) (hN' : os.length ≤ 1000) (A2 : Option Addr) (cap2 : Nat) (hr : RdO w A2 os) :
    Calls Tryd.prog 11 #[pv p, .slice A2 os.length cap2] w fun e w' => e = .returned (.bool true) ∧ Below w.heap.size w w' := by
  have hz := z34
  have hbl := oz_len
  have hFw : ∀ f, Fence.wide.fn f := fun _ => trivial
  have HB := Lib.hid (((((Below.refl w.heap.size w).alloc (Nat.le_refl _) (.cells #[.slice A2 os.length cap2] 22)).alloc (by simp) (.cells #[.bool false] 4)).alloc (by simp; omega) (.cells #[.int .i64 0] 3)).alloc (by simp; omega) (.cells #[pv p] 24))
  have HS := Lib.hid ((((h.alloc (.cells #[.slice A2 os.length cap2] 22)).alloc (.cells #[.bool false] 4)).alloc (.cells #[.int .i64 0] 3)).alloc (.cells #[pv p] 24))
  have HR := Lib.hid hr
  have HL := Lib.hid (fun (k : Nat) (hk : stHas p A ps k) => (h.lt k hk).2)
  have H0 := Lib.hid ((((Blk.new w 22 #[.slice A2 os.length cap2]).alloc (.cells #[.bool false] 4)).alloc (.cells #[.int .i64 0] 3)).alloc (.cells #[pv p] 24))
  have H1 := Lib.hid (((show Blk ((w.alloc (.cells #[.slice A2 os.length cap2] 22)).alloc (.cells #[.bool false] 4)) (w.heap.size + 1) 4 #[.bool false] from by have := Blk.new (w.alloc (.cells #[.slice A2 os.length cap2] 22)) 4 #[.bool false]; simpa using this).alloc (.cells #[.int .i64 0] 3)).alloc (.cells #[pv p] 24))
  have H2 := Lib.hid ((show Blk (((w.alloc (.cells #[.slice A2 os.length cap2] 22)).alloc (.cells #[.bool false] 4)).alloc (.cells #[.int .i64 0] 3)) (w.heap.size + 1 + 1) 3 #[.int .i64 0] from by have := Blk.new ((w.alloc (.cells #[.slice A2 os.length cap2] 22)).alloc (.cells #[.bool false] 4)) 3 #[.int .i64 0]; simpa using this).alloc (.cells #[pv p] 24))
  have H4 := Lib.hid (show Blk ((((w.alloc (.cells #[.slice A2 os.length cap2] 22)).alloc (.cells #[.bool false] 4)).alloc (.cells #[.int .i64 0] 3)).alloc (.cells #[pv p] 24)) (w.heap.size + 1 + 1 + 1) 24 #[pv p] from by have := Blk.new (((w.alloc (.cells #[.slice A2 os.length cap2] 22)).alloc (.cells #[.bool false] 4)).alloc (.cells #[.int .i64 0] 3)) 24 #[pv p]; simpa using this)
  have SZ := Lib.hid (show ((((w.alloc (.cells #[.slice A2 os.length cap2] 22)).alloc (.cells #[.bool false] 4)).alloc (.cells #[.int .i64 0] 3)).alloc (.cells #[pv p] 24)).heap.size = w.heap.size + 4 by simp)
  have HN := Lib.hid hN
  have HN' := Lib.hid hN'
  clear h hr hN
  refine (callsIn_wide (n := 4)).1 (callsIn_of_wp_marks Tryd.func11 rfl trivial ?_ rfl)
  simp only [Tryd.ntmps11, List.size_toArray, List.length_cons, List.length_nil, Nat.reduceAdd, Nat.reduceSub, Array.replicate_succ, Array.replicate_zero, List.push_toArray, List.append_toArray, List.nil_append, List.cons_append]
  gi_wp2_with (gi_at_call 28; refine ((callsIn_wide (n := 3)).2 (all_any _ (.inr ⟨p, rfl⟩) _)).mono ?_; rintro e w' ⟨rfl, rfl⟩)
  generalize ((((w.alloc (.cells #[.slice A2 os.length cap2] 22)).alloc (.cells #[.bool false] 4)).alloc (.cells #[.int .i64 0] 3)).alloc (.cells #[pv p] 24)) = W5 at HB HS H0 H1 H2 H4 SZ ⊢
  refine wpIn_rangeFunc_ownH (α := Ie os) (Kp := KS p A ps) (w0 := W5) rfl (by omega) (gf := 68) (a := { tmps := #[pv p, .slice A2 os.length cap2, undef, .pointer (some ⟨w.heap.size, 0, none⟩), .pointer (some ⟨w.heap.size + 1, 0, none⟩), .pointer (some ⟨w.heap.size + 1 + 1, 0, none⟩), undef, undef, pv p, .func (.func 68) #[] #[.pointer (some ⟨w.heap.size + 1 + 1 + 1, 0, none⟩)], undef, undef, undef, undef, undef, undef, undef, undef, undef, undef, undef, undef, undef, undef, undef, undef, undef, undef, undef, undef, undef, undef, undef, undef, undef], defers := [] }) rfl trivial (enters_of Tryd.func68 (by kernel_rfl) rfl)
    (all1_in 3 (by omega) (w.heap.size + 1 + 1 + 1) HS.out HN.out HN'.out ((H4.out.cell 0).trans rfl)) (fun h k => h.trans k) (fun W l o o' => KS.put HS.out l o o') (Below.refl _ _) (fun _ => rfl)
    (fun pre W => Blk W (w.heap.size + 1 + 1) 3 #[.int .i64 (pre.length : Int)] ∧ Blk W w.heap.size 22 #[.slice A2 os.length cap2] ∧ Blk W (w.heap.size + 1) 4 #[.bool false] ∧ Below w.heap.size w W ∧ W5.heap.size ≤ W.heap.size ∧ StAt W base p A cap ps os)
    (fun (_ : Code) (xs : List (Ie os)) (_ : World) => ∃ (pre : List (Ie os)) (x : Ie os), xs = pre ++ [x] ∧ x.i ≠ pre.length)
    ((own_blk _ _ _ (fun pre : List (Ie os) => #[.int .i64 (pre.length : Int)])).and ((own_blk _ _ _ (fun _ => _)).and ((own_blk _ _ _ (fun _ => _)).and ((ownFrom_below (Nat.le_refl _) HB.out.size).and ((own_size _ _).and (own_st HL.out HB.out.size))))))
    (fun _ _ _ _ _ hs _ _ => hs) ⟨H2.out, H0.out, H1.out, HB.out, Nat.le_refl _, HS.out⟩
    (fun x a' W => ∃ b, W5.heap.size ≤ b ∧ a' = { tmps := #[pv p, .slice A2 os.length cap2, undef, .pointer (some ⟨w.heap.size, 0, none⟩), .pointer (some ⟨w.heap.size + 1, 0, none⟩), .pointer (some ⟨w.heap.size + 1 + 1, 0, none⟩), .int .i64 (x.i : Int), .pointer (some ⟨b, 0, none⟩), pv p, .func (.func 68) #[] #[.pointer (some ⟨w.heap.size + 1 + 1 + 1, 0, none⟩)], .int .i64 (x.i : Int), x.o.val, undef, undef, undef, undef, undef, undef, undef, undef, undef, undef, undef, undef, undef, undef, undef, undef, undef, undef, undef, undef, undef, undef, undef], defers := [] } ∧ Blk W b 56 x.o.cells.toArray)
    (fun x a' s X Y row hs hg hr => by
      obtain ⟨b, h1, h2, h3⟩ := hs
      exact ⟨b, h1, h2, own_blk W5.heap.size b _ (fun _ => _) s X Y row h3 hg hr⟩)
    ?assign ?body ?done ?stop
  case assign =>
    rintro l pre x W K ⟨i1, i2, i3, i4, i5, i6⟩ hK
    have hk := hK { tmps := #[pv p, .slice A2 os.length cap2, undef, .pointer (some ⟨w.heap.size, 0, none⟩), .pointer (some ⟨w.heap.size + 1, 0, none⟩), .pointer (some ⟨w.heap.size + 1 + 1, 0, none⟩), .int .i64 (x.i : Int), .pointer (some ⟨W.heap.size, 0, none⟩), pv p, .func (.func 68) #[] #[.pointer (some ⟨w.heap.size + 1 + 1 + 1, 0, none⟩)], .int .i64 (x.i : Int), x.o.val, undef, undef, undef, undef, undef, undef, undef, undef, undef, undef, undef, undef, undef, undef, undef, undef, undef, undef, undef, undef, undef, undef, undef], defers := [] } (W.alloc (.cells x.o.cells.toArray 56)) ((KeepsOthers.alloc W _).from _) (fun k hk => Below.heap_alloc W _ _ (i6.lt k hk).2) ⟨i1.alloc _, i2.alloc _, i3.alloc _, i4.alloc i4.size _, by rw [World.size_alloc]; omega, i6.alloc _⟩ ⟨W.heap.size, i5, rfl, Blk.new W _ _⟩
    have HKK := Lib.hid hk
    clear hK hk i1 i2 i3 i4 i5 i6
    gi_wp2_with (refine wpListIn_store_last rfl (.tmp 7) (.tmp 11) rfl _ rfl rfl x.o oz rfl ?_)
    exact HKK.out
  case body =>
    rintro l pre x a' W hl _ ⟨i1, i2, i3, i4, i5, i6⟩ ⟨b, hb, rfl, hbw⟩ hlen
    obtain ⟨k, hk⟩ : ∃ k, k = pre.length := ⟨_, rfl⟩
    rw [← hk] at i1 hlen
    have SW := SZ.out
    by_cases hxi : x.i = k
    · obtain ⟨gl, off, rfl, hob0⟩ := HR.out k hlen
      have hxo : x.o = os[k]'hlen := by
        obtain ⟨xi, xl⟩ := x
        simp only at hxi
        subst hxi
        rfl
      have hob1 := hob0.below i4
      rw [← hxo] at hob1
      have HOB := Lib.hid hob1
      have d0 : decide ((os.length : Int) ≤ (k : Int)) = false := decide_eq_false (by omega)
      have d0' : decide (os.length ≤ k) = false := decide_eq_false (by omega)
      have I1 := Lib.hid i1
      have II := Lib.hid (show _ ∧ _ ∧ _ ∧ _ ∧ _ from ⟨i2, i3, i4, i5, i6⟩)
      have HXI := Lib.hid hxi
      have HKP := Lib.hid hk
      have hll : (k : Int) < (os.length : Int) := by omega
      rw [hxi]
      clear hob0 hob1 hxo hxi hk
      gi_wp2_with fail
      refine wpIn_region_round (S := fun w' => w'.cell? ⟨w.heap.size + 1 + 1, 0, none⟩ = some (.int .i64 (k : Int)) ∧ w'.cell? ⟨w.heap.size, 0, none⟩ = some (.slice (some ⟨gl, off, none⟩) os.length cap2) ∧ ObAt w' b 0 x.o ∧ ObAt w' gl (off + k * 163) x.o) (by kernel_rfl) (noDefer (by kernel_rfl)) ⟨(i1.cell 0).trans rfl, (i2.cell 0).trans rfl, hbw.ob.drew, HOB.out.drew⟩ (fun hHeld => ?_)
      refine wpAnyH_take (i := 0) (v := ?v1) rfl (by kernel_rfl) (by kernel_rfl) (by kernel_rfl) (fun _ _ _ h => h) (Or.inl ⟨by rfl, ?hy1⟩) hHeld ?rest1
      case hy1 =>
        intro w' hSw
        try dsimp only at hSw
        go_simp
        first | done | with_reducible rfl
      try simp only [Act.put, zq1, zq3, zq4, zq5, zq6]
      refine wpAnyH_take (i := 1) (v := ?v2) rfl (by kernel_rfl) (by kernel_rfl) (by kernel_rfl) (fun _ _ _ h => h) (Or.inl ⟨by rfl, ?hy2⟩) hHeld ?rest2
      case hy2 =>
        intro w' hSw
        try dsimp only at hSw
        go_simp
        first | done | with_reducible rfl
      try simp only [Act.put, zq1, zq2, zq3, zq4, zq5, zq6]
      refine wpAnyH_take (i := 2) (v := ?v3) rfl (by kernel_rfl) (by kernel_rfl) (by kernel_rfl) (fun _ _ _ h => h) (Or.inl ⟨by rfl, ?hy3⟩) hHeld ?rest3
      case hy3 =>
        intro w' hSw
        try dsimp only at hSw
        go_simp
        first | done | with_reducible rfl
      try simp only [Act.put, zq1, zq2, zq3, zq4, zq5, zq6]
      refine wpAnyH_take (i := 3) (v := ?v4) rfl (by kernel_rfl) (by kernel_rfl) (by kernel_rfl) (fun _ _ _ h => h) (Or.inl ⟨by rfl, ?hy4⟩) hHeld ?rest4
      case hy4 =>
        intro w' hSw
        try dsimp only at hSw
        go_simp
        first | done | with_reducible rfl
      try simp only [Act.put, zq1, zq2, zq3, zq4, zq5, zq6]
      refine wpAnyH_take (i := 4) (v := ?v5) rfl (by kernel_rfl) (by kernel_rfl) (by kernel_rfl) (fun _ _ _ h => h) (Or.inl ⟨by rfl, ?hy5⟩) hHeld ?rest5
      case hy5 =>
        intro w' hSw
        try dsimp only at hSw
        go_simp
        first | done | with_reducible rfl
      try simp only [Act.put, zq1, zq2, zq3, zq4, zq5, zq6]
      refine wpAnyH_take (i := 5) (v := ?v6) rfl (by kernel_rfl) (by kernel_rfl) (by kernel_rfl) (fun _ _ _ h => h) (Or.inl ⟨by rfl, ?hy6⟩) hHeld ?rest6
      case hy6 =>
        intro w' hSw
        try dsimp only at hSw
        go_simp
        first | done | with_reducible rfl
      try simp only [Act.put, zq1, zq2, zq3, zq4, zq5, zq6]
      refine wpAnyH_take (i := 6) (v := ?v7) rfl (by kernel_rfl) (by kernel_rfl) (by kernel_rfl) (fun _ _ _ h => h) (Or.inl ⟨by rfl, ?hy7⟩) hHeld ?rest7
      case hy7 =>
        intro w' hSw
        try dsimp only at hSw
        go_simp
        first | done | with_reducible rfl
      try simp only [Act.put, zq1, zq2, zq3, zq4, zq5, zq6]
      refine wpAnyH_take (i := 7) (v := ?v8) rfl (by kernel_rfl) (by kernel_rfl) (by kernel_rfl) (fun _ _ _ h => h) (Or.inl ⟨by rfl, ?hy8⟩) hHeld ?rest8
      case hy8 =>
        intro w' hSw
        try dsimp only at hSw
        go_simp
        first | done | with_reducible rfl
      try simp only [Act.put, zq1, zq2, zq3, zq4, zq5, zq6]
      refine wpAnyH_take (i := 8) (v := ?v9) rfl (by kernel_rfl) (by kernel_rfl) (by kernel_rfl) (fun _ _ _ h => h) (Or.inl ⟨by rfl, ?hy9⟩) hHeld ?rest9
      case hy9 =>
        intro w' hSw
        try dsimp only at hSw
        go_simp
        first | done | with_reducible rfl
      try simp only [Act.put, zq1, zq2, zq3, zq4, zq5, zq6]
      refine wpAnyH_take (i := 9) (v := ?v10) rfl (by kernel_rfl) (by kernel_rfl) (by kernel_rfl) (fun _ _ _ h => h) (Or.inl ⟨by rfl, ?hy10⟩) hHeld ?rest10
      case hy10 =>
        intro w' hSw
        try dsimp only at hSw
        go_simp
        first | done | with_reducible rfl
      try simp only [Act.put, zq1, zq2, zq3, zq4, zq5, zq6]
      refine wpAnyH_take (i := 10) rfl (by kernel_rfl) (by kernel_rfl) (by kernel_rfl) (fun _ _ _ h => h) (y_ob (by rfl) (.tmp 7) (by rfl) b 0 (by rfl) x.o (fun _ h => h.2.2.1)) hHeld ?_
      try simp only [Act.put, zq1, zq2, zq3, zq4, zq5, zq6]
      refine wpAnyH_take (i := 11) (v := ?v11) rfl (by kernel_rfl) (by kernel_rfl) (by kernel_rfl) (fun _ _ _ h => h) (Or.inl ⟨by rfl, ?hy11⟩) hHeld ?rest11
      case hy11 =>
        intro w' hSw
        try dsimp only at hSw
        go_simp
        first | done | with_reducible rfl
      try simp only [Act.put, zq1, zq2, zq3, zq4, zq5, zq6]
      refine wpAnyH_take (i := 12) (v := ?v12) rfl (by kernel_rfl) (by kernel_rfl) (by kernel_rfl) (fun _ _ _ h => h) (Or.inl ⟨by rfl, ?hy12⟩) hHeld ?rest12
      case hy12 =>
        intro w' hSw
        try dsimp only at hSw
        go_simp
        first | done | with_reducible rfl
      try simp only [Act.put, zq1, zq2, zq3, zq4, zq5, zq6]
      refine wpAnyH_take (i := 13) (v := ?v13) rfl (by kernel_rfl) (by kernel_rfl) (by kernel_rfl) (fun _ _ _ h => h) (Or.inl ⟨by rfl, ?hy13⟩) hHeld ?rest13
      case hy13 =>
        intro w' hSw
        try dsimp only at hSw
        go_simp
        first | done | with_reducible rfl
      try simp only [Act.put, zq1, zq2, zq3, zq4, zq5, zq6]
      refine wpAnyH_take (i := 14) rfl (by kernel_rfl) (by kernel_rfl) (by kernel_rfl) (fun _ _ _ h => h) (y_ob (by rfl) (.tmp 25) (by rfl) gl (off + k * 163) (by rfl) x.o (fun _ h => h.2.2.2)) hHeld ?_
      try simp only [Act.put, zq1, zq2, zq3, zq4, zq5, zq6]
      refine wpAnyH_take (i := 15) rfl (by kernel_rfl) (by kernel_rfl) (by kernel_rfl) (fun _ _ _ h => h) (y_obne_self (by rfl) (by rfl) x.o (by rfl) (by rfl)) hHeld ?_
      try simp only [Act.put, zq1, zq2, zq3, zq4, zq5, zq6]
      refine wpAnyH_take (i := 16) (v := ?v14) rfl (by kernel_rfl) (by kernel_rfl) (by kernel_rfl) (fun _ _ _ h => h) (Or.inl ⟨by rfl, ?hy14⟩) hHeld ?rest14
      case hy14 =>
        intro w' hSw
        try dsimp only at hSw
        go_simp
        first | done | with_reducible rfl
      try simp only [Act.put, zq1, zq2, zq3, zq4, zq5, zq6]
      refine wpAnyH_done (by kernel_rfl) ?_ _
      refine OnlyN.normal ?_
      clear hHeld i1 i2 i3 i4 i5 i6
      have c2 : W.drew.cell? ⟨w.heap.size + 1 + 1, 0, none⟩ = some (.int .i64 (k : Int)) := (I1.out.drew.cell 0).trans rfl
      have f2 : W.drew.frozen? ⟨w.heap.size + 1 + 1, 0, none⟩ = false := I1.out.drew.frozen 0
      have HK1 : Hid (((k : Int) + 1) = (((pre ++ [x]).length : Nat) : Int)) := by show ((k : Int) + 1) = _; rw [List.length_append, ← HKP.out]; simp
      gi_wp2
      obtain ⟨i2, i3, i4, i5, i6⟩ := II.out
      refine ⟨keeps_drew ((KeepsOthers.setCell _ _ _).from _), fun q hq => Below.heap_setCell _ _ _ _ (by have := HL.out q hq; simp; omega), ?_, (i2.far (by simp; omega) _).drew, (i3.far (by simp) _).drew, below_drew (i4.setCell (p := ⟨w.heap.size + 1 + 1, 0, none⟩) (by simp; omega) _), by simpa [World.setCell] using i5, i6.keep fun q hq => Below.heap_setCell _ _ _ _ (by have := HL.out q hq; simp; omega)⟩
      rw [← HK1.out]
      have := I1.out.set_ 0 (.int .i64 ((k : Int) + 1))
      exact this
    · have d0 : ((x.i : Int) != (k : Int)) = true := by simp; omega
      have I1 := Lib.hid i1
      have I3 := Lib.hid i3
      have HXI := Lib.hid hxi
      have HKP := Lib.hid hk
      clear hxi hk
      gi_wp2_with fail
      refine wpIn_region_round (S := fun w' => w'.cell? ⟨w.heap.size + 1 + 1, 0, none⟩ = some (.int .i64 (k : Int))) (by kernel_rfl) (noDefer (by kernel_rfl)) ((i1.cell 0).trans rfl) (fun hHeld => ?_)
      refine wpAnyH_take (i := 0) (v := ?v15) rfl (by kernel_rfl) (by kernel_rfl) (by kernel_rfl) (fun _ _ _ h => h) (Or.inl ⟨by rfl, ?hy15⟩) hHeld ?rest15
      case hy15 =>
        intro w' hSw
        try dsimp only at hSw
        go_simp
        first | done | with_reducible rfl
      try simp only [Act.put, zq1, zq3, zq4, zq5, zq6]
      refine wpAnyH_take (i := 1) (v := ?v16) rfl (by kernel_rfl) (by kernel_rfl) (by kernel_rfl) (fun _ _ _ h => h) (Or.inl ⟨by rfl, ?hy16⟩) hHeld ?rest16
      case hy16 =>
        intro w' hSw
        try dsimp only at hSw
        go_simp
        first | done | with_reducible rfl
      try simp only [Act.put, zq1, zq2, zq3, zq4, zq5, zq6]
      refine wpAnyH_take (i := 2) (v := ?v17) rfl (by kernel_rfl) (by kernel_rfl) (by kernel_rfl) (fun _ _ _ h => h) (Or.inl ⟨by rfl, ?hy17⟩) hHeld ?rest17
      case hy17 =>
        intro w' hSw
        try dsimp only at hSw
        go_simp
        first | done | with_reducible rfl
      try simp only [Act.put, zq1, zq2, zq3, zq4, zq5, zq6]
      refine wpAnyH_take (i := 3) (v := ?v18) rfl (by kernel_rfl) (by kernel_rfl) (by kernel_rfl) (fun _ _ _ h => h) (Or.inl ⟨by rfl, ?hy18⟩) hHeld ?rest18
      case hy18 =>
        intro w' hSw
        try dsimp only at hSw
        go_simp
        first | done | with_reducible rfl
      try simp only [Act.put, zq1, zq2, zq3, zq4, zq5, zq6]
      refine wpAnyH_take (i := 4) (v := undef) rfl (by kernel_rfl) (by kernel_rfl) (by kernel_rfl) (fun _ _ _ h => h) (Or.inr ⟨by rfl, rfl⟩) hHeld ?_
      try simp only [Act.put, zq1, zq2, zq3, zq4, zq5, zq6]
      refine wpAnyH_take (i := 5) (v := undef) rfl (by kernel_rfl) (by kernel_rfl) (by kernel_rfl) (fun _ _ _ h => h) (Or.inr ⟨by rfl, rfl⟩) hHeld ?_
      try simp only [Act.put, zq1, zq2, zq3, zq4, zq5, zq6]
      refine wpAnyH_take (i := 6) (v := undef) rfl (by kernel_rfl) (by kernel_rfl) (by kernel_rfl) (fun _ _ _ h => h) (Or.inr ⟨by rfl, rfl⟩) hHeld ?_
      try simp only [Act.put, zq1, zq2, zq3, zq4, zq5, zq6]
      refine wpAnyH_take (i := 7) (v := undef) rfl (by kernel_rfl) (by kernel_rfl) (by kernel_rfl) (fun _ _ _ h => h) (Or.inr ⟨by rfl, rfl⟩) hHeld ?_
      try simp only [Act.put, zq1, zq2, zq3, zq4, zq5, zq6]
      refine wpAnyH_take (i := 8) (v := ?v19) rfl (by kernel_rfl) (by kernel_rfl) (by kernel_rfl) (fun _ _ _ h => h) (Or.inl ⟨by rfl, ?hy19⟩) hHeld ?rest19
      case hy19 =>
        intro w' hSw
        try dsimp only at hSw
        go_simp
        first | done | with_reducible rfl
      try simp only [Act.put, zq1, zq2, zq3, zq4, zq5, zq6]
      refine wpAnyH_take (i := 9) (v := ?v20) rfl (by kernel_rfl) (by kernel_rfl) (by kernel_rfl) (fun _ _ _ h => h) (Or.inl ⟨by rfl, ?hy20⟩) hHeld ?rest20
      case hy20 =>
        intro w' hSw
        try dsimp only at hSw
        go_simp
        first | done | with_reducible rfl
      try simp only [Act.put, zq1, zq2, zq3, zq4, zq5, zq6]
      refine wpAnyH_take (i := 10) (v := undef) rfl (by kernel_rfl) (by kernel_rfl) (by kernel_rfl) (fun _ _ _ h => h) (Or.inr ⟨by rfl, rfl⟩) hHeld ?_
      try simp only [Act.put, zq1, zq2, zq3, zq4, zq5, zq6]
      refine wpAnyH_take (i := 11) (v := undef) rfl (by kernel_rfl) (by kernel_rfl) (by kernel_rfl) (fun _ _ _ h => h) (Or.inr ⟨by rfl, rfl⟩) hHeld ?_
      try simp only [Act.put, zq1, zq2, zq3, zq4, zq5, zq6]
      refine wpAnyH_take (i := 12) (v := undef) rfl (by kernel_rfl) (by kernel_rfl) (by kernel_rfl) (fun _ _ _ h => h) (Or.inr ⟨by rfl, rfl⟩) hHeld ?_
      try simp only [Act.put, zq1, zq2, zq3, zq4, zq5, zq6]
      refine wpAnyH_take (i := 13) (v := undef) rfl (by kernel_rfl) (by kernel_rfl) (by kernel_rfl) (fun _ _ _ h => h) (Or.inr ⟨by rfl, rfl⟩) hHeld ?_
      try simp only [Act.put, zq1, zq2, zq3, zq4, zq5, zq6]
      refine wpAnyH_take (i := 14) (v := undef) rfl (by kernel_rfl) (by kernel_rfl) (by kernel_rfl) (fun _ _ _ h => h) (Or.inr ⟨by rfl, rfl⟩) hHeld ?_
      try simp only [Act.put, zq1, zq2, zq3, zq4, zq5, zq6]
      refine wpAnyH_take (i := 15) (v := undef) rfl (by kernel_rfl) (by kernel_rfl) (by kernel_rfl) (fun _ _ _ h => h) (Or.inr ⟨by rfl, rfl⟩) hHeld ?_
      try simp only [Act.put, zq1, zq2, zq3, zq4, zq5, zq6]
      refine wpAnyH_take (i := 16) (v := ?v21) rfl (by kernel_rfl) (by kernel_rfl) (by kernel_rfl) (fun _ _ _ h => h) (Or.inl ⟨by rfl, ?hy21⟩) hHeld ?rest21
      case hy21 =>
        intro w' hSw
        try dsimp only at hSw
        go_simp
        first | done | with_reducible rfl
      try simp only [Act.put, zq1, zq2, zq3, zq4, zq5, zq6]
      refine wpAnyH_done (by kernel_rfl) ?_ _
      refine OnlyN.normal ?_
      clear hHeld i1 i2 i3 i4 i5 i6
      have c1 : W.drew.cell? ⟨w.heap.size + 1, 0, none⟩ = some (.bool false) := (I3.out.drew.cell 0).trans rfl
      have f1 : W.drew.frozen? ⟨w.heap.size + 1, 0, none⟩ = false := I3.out.drew.frozen 0
      gi_wp2
      exact ⟨keeps_drew ((KeepsOthers.setCell _ _ _).from _), pre, x, rfl, fun e => HXI.out (by rw [HKP.out]; exact e)⟩
  case stop =>
    rintro D c pre W _ ⟨k, _, hk⟩ ⟨q, x, rfl, hx⟩ _
    exact absurd hk.last hx
  case done =>
    rintro D xs W hD hS ⟨i1, i2, i3, i4, i5, i6⟩ hK
    rw [hS.1] at i1
    have I1 := Lib.hid i1
    have I2 := Lib.hid i2
    have I3 := Lib.hid i3
    have I4 := Lib.hid i4
    have I6 := Lib.hid i6
    have HK := Lib.hid hK
    have HD := Lib.hid (show w.heap.size + 4 ≤ D by have := SZ.out; omega)
    clear i1 i2 i3 i4 i5 i6 hK hS
    have c2 : W.cell? ⟨w.heap.size + 1 + 1, 0, none⟩ = some (.int .i64 (os.length : Int)) := (I1.out.cell 0).trans rfl
    have c0 : W.cell? ⟨w.heap.size, 0, none⟩ = some (.slice A2 os.length cap2) := (I2.out.cell 0).trans rfl
    have c1 : W.cell? ⟨w.heap.size + 1, 0, none⟩ = some (.bool false) := (I3.out.cell 0).trans rfl
    have f1 : W.frozen? ⟨w.heap.size + 1, 0, none⟩ = false := I3.out.frozen 0
    gi_wp2
    have hDB : (W.setCell ⟨w.heap.size + 1, 0, none⟩ (.bool true)).heap[D]? = some (.deferred (some [])) := (Below.heap_setCell W ⟨w.heap.size + 1, 0, none⟩ (.bool true) D (by have := HD.out; simp; omega)).trans HK.out
    have hb1 : Blk (W.setCell ⟨w.heap.size + 1, 0, none⟩ (.bool true)) (w.heap.size + 1) 4 #[.bool true] := (I3.out.set_ 0 (.bool true))
    refine ⟨by simp, .inl ⟨_, _, rfl, run_takeDeferred hDB, ?_⟩⟩
    have hb2 := (World.putObj_heap_other (o := .deferred none) (show w.heap.size + 1 ≠ D by have := HD.out; omega)).trans hb1
    refine ⟨_, results_bool rfl _ _ (w.heap.size + 1) true rfl ((Blk.cell hb2 0).trans rfl), rfl, (I4.out.setCell (p := ⟨w.heap.size + 1, 0, none⟩) (by simp) (.bool true)).trans ?_⟩
    exact (belowK_b (w := w) (Nat.le_refl _) _ D _ _ (by have := HD.out; omega) hDB rfl rfl)
end
end Go.Proofs.YtljfddeolapeaaaDoor

/- law 13: does, of any call; same. -/
namespace Go.Proofs.YtljfddeolapeaaaDoor
open List renaming getElem_toArray → zq1, getElem_cons_succ → zq2, getElem_cons_zero → zq3, setIfInBounds_toArray → zq4, set_cons_zero → zq5, set_cons_succ → zq6
open Go.RowKit
theorem RdO.fr {w w' : World} {L : Option Addr} {l : List Oj} {S : Nat → Prop} (h : RdO w L l) (hf : Fr S w w') (hS : ∀ q, L = some q → ¬ S q.block) : RdO w' L l := fun i hi => by
  obtain ⟨b, off, e, ho⟩ := h i hi
  exact ⟨b, off, e, ho.keep (hf.block b ho.lt (hS _ e))⟩
set_option maxRecDepth 8000 in
theorem same_n {w : World} {base p : Nat} {A : Option Addr} {cap : Nat} {ps : List Nat} {os : List Oj} {n : Nat} (h : StAt w base p A cap ps os) (hl : os.length = n) (hN : 0 < n) (hN' : n ≤ 1000) (A2 : Option Addr) (cap2 : Nat) (hr : RdO w A2 os) :
    Calls Tryd.prog 11 #[pv p, .slice A2 n cap2] w fun e w' => e = .returned (.bool true) ∧ Below w.heap.size w w' := by
  subst hl
  exact same_at h hN hN' A2 cap2 hr
set_option maxRecDepth 8000 in
theorem Blk.ja4 {w : World} {g : Nat} {t : TypeId} {x : Ja} (h : Blk w g t x.cells.toArray) : w.cell? ⟨g, 0, none⟩ = some (.int .i64 x.k) ∧ w.cell? ⟨g, 1, none⟩ = some (.int .i64 x.i) ∧ w.cell? ⟨g, 8, none⟩ = some (.int .i64 x.md) ∧ w.cell? ⟨g, 9, none⟩ = some (.int .i64 x.s) := by
  have q := h.ja
  refine ⟨q.kind, ?_, ?_, ?_⟩
  · simpa using q.oid
  · simpa using q.mode
  · simpa using q.state
set_option maxRecDepth 8000 in
theorem Blk.jak {w : World} {g : Nat} {t : TypeId} {x : Ja} (h : Blk w g t x.cells.toArray) : KeyAt w g 2 x.x := by simpa using h.ja.key
set_option maxRecDepth 8000 in
theorem Blk.jam {w : World} {g : Nat} {t : TypeId} {x : Ja} (h : Blk w g t x.cells.toArray) : MgAt w g 10 x.m := by simpa using h.ja.msg
section
variable {w : World} {base p : Nat} {A : Option Addr} {cap : Nat} {ps : List Nat} {os' : List Oj} {L : Option Addr} {n c : Nat}
set_option maxRecDepth 100000 in
set_option maxHeartbeats 2000000 in
theorem does_1 (x : Ja) (hk : x.k = 1) (v : Int) (hps : ∀ k ∈ ps, k < w.heap.size) (hg : ∀ W, Below w.heap.size w W → Calls Tryd.prog 14 #[pv p, .int .i64 x.i, x.x.val, .int .i64 x.md, x.m.val] W fun e w' => e = .returned (.int .i64 v) ∧ StAt w' base p A cap ps os' ∧ Fr (fun k => k ∈ ps) W w')
    (hr : ∀ W, Fr (fun k => k ∈ ps) w W → Calls Tryd.prog 23 #[.slice L n c, .int .i64 x.i, x.x.val, .int .i64 x.md, x.m.val] W fun e w' => ∃ L' c', e = .returned (.tuple #[.slice L' n c', .int .i64 v]) ∧ (L' = L ∨ ∃ q, L' = some ⟨q, 0, none⟩ ∧ W.heap.size ≤ q) ∧ RdO w' L' os' ∧ Below W.heap.size W w') :
    Calls Tryd.prog 10 #[pv p, .slice L n c, x.val] w fun e w' => ∃ L' c', e = .returned (.tuple #[.slice L' n c', .bool true]) ∧ (L' = L ∨ ∃ q, L' = some ⟨q, 0, none⟩ ∧ w.heap.size ≤ q) ∧ StAt w' base p A cap ps os' ∧ RdO w' L' os' ∧ Fr (fun k => k ∈ ps) w w' := by
  have hal := x.len
  have HPS := Lib.hid hps
  have HG := Lib.hid hg
  have HR := Lib.hid hr
  have e1 : (x.k == 1) = true := by simpa using hk
  clear hg hr hps  hk
  have HB0 := Lib.hid ((Below.refl w.heap.size w).alloc (Nat.le_refl _) (.cells x.cells.toArray 40))
  have HA0 := Lib.hid (Blk.new w 40 x.cells.toArray)
  obtain ⟨c0, c1, c8, c9⟩ := HA0.out.ja4
  go_enter Tryd.func10, Tryd.ntmps10
  go_wp2_with (first
    | ((with_reducible show wpList _ _ _ ({ dst := some 25, op := .load 33 _, type := _, pos := _, after := _, guard := _ } :: _) _ _); refine wpList_yields (S := fun w' => KeyAt w' w.heap.size 2 x.x) (y_kyJ (by rfl) (.tmp 24) (by rfl) w.heap.size 2 (by rfl) x.x (fun _ h => h)) HA0.out.jak ?_)
    | ((with_reducible show wpList _ _ _ ({ dst := some 29, op := .load 38 _, type := _, pos := _, after := _, guard := _ } :: _) _ _); refine wpList_yields (S := fun w' => MgAt w' w.heap.size 10 x.m) (y_mg (by rfl) (.tmp 28) (by rfl) w.heap.size 10 (by rfl) x.m (fun _ h => h)) HA0.out.jam ?_)
    | ((with_reducible show wpList _ _ _ ({ dst := some 36, op := .load 33 _, type := _, pos := _, after := _, guard := _ } :: _) _ _); refine wpList_yields (S := fun w' => KeyAt w' w.heap.size 2 x.x) (y_kyJ (by rfl) (.tmp 35) (by rfl) w.heap.size 2 (by rfl) x.x (fun _ h => h)) HA1.out.jak ?_)
    | ((with_reducible show wpList _ _ _ ({ dst := some 40, op := .load 38 _, type := _, pos := _, after := _, guard := _ } :: _) _ _); refine wpList_yields (S := fun w' => MgAt w' w.heap.size 10 x.m) (y_mg (by rfl) (.tmp 39) (by rfl) w.heap.size 10 (by rfl) x.m (fun _ h => h)) HA1.out.jam ?_)
    | (go_at_call 14; refine (HG.out _ HB0.out).mono ?_; rintro e w1 ⟨rfl, s1, f1⟩; have HF1 := Lib.hid ((Fr.of_below HB0.out : Fr (fun k => k ∈ ps) w _).trans f1); have HA1 := Lib.hid (show Blk _ _ _ _ from (f1.block _ HA0.out.lt (fun hm => by have := HPS.out _ hm; omega)).trans HA0.out); have HS1 := Lib.hid s1; clear s1 f1 c0 c1 c8 c9; obtain ⟨c0, c1, c8, c9⟩ := HA1.out.ja4)
    | (go_at_call 23; refine (HR.out _ HF1.out).mono ?_; rintro e w2 ⟨L2, c2', rfl, hl2, hr2, b2⟩; have HL2 := Lib.hid hl2; have HF2 := Lib.hid (HF1.out.below b2); have HR2 := Lib.hid hr2; have HS2 := Lib.hid (HS1.out.below b2); clear b2 hl2 hr2))
  go_ret2
  exact ⟨L2, c2', rfl, HL2.out.imp id (fun ⟨q, h1, h2⟩ => ⟨q, h1, by have := HF1.out.size; omega⟩), HS2.out, HR2.out, HF2.out⟩
set_option maxRecDepth 100000 in
set_option maxHeartbeats 2000000 in
theorem does_2 (x : Ja) (hk : x.k = 2) (v : Int) (hps : ∀ k ∈ ps, k < w.heap.size) (hg : ∀ W, Below w.heap.size w W → Calls Tryd.prog 24 #[pv p, .int .i64 x.i, x.m.val] W fun e w' => e = .returned (.int .i64 v) ∧ StAt w' base p A cap ps os' ∧ Fr (fun k => k ∈ ps) W w')
    (hr : ∀ W, Fr (fun k => k ∈ ps) w W → Calls Tryd.prog 25 #[.slice L n c, .int .i64 x.i, x.m.val] W fun e w' => ∃ L' c', e = .returned (.tuple #[.slice L' n c', .int .i64 v]) ∧ (L' = L ∨ ∃ q, L' = some ⟨q, 0, none⟩ ∧ W.heap.size ≤ q) ∧ RdO w' L' os' ∧ Below W.heap.size W w') :
    Calls Tryd.prog 10 #[pv p, .slice L n c, x.val] w fun e w' => ∃ L' c', e = .returned (.tuple #[.slice L' n c', .bool true]) ∧ (L' = L ∨ ∃ q, L' = some ⟨q, 0, none⟩ ∧ w.heap.size ≤ q) ∧ StAt w' base p A cap ps os' ∧ RdO w' L' os' ∧ Fr (fun k => k ∈ ps) w w' := by
  have hal := x.len
  have HPS := Lib.hid hps
  have HG := Lib.hid hg
  have HR := Lib.hid hr
  have e1 : (x.k == 1) = false := by rw [hk]; rfl
  have e2 : (x.k == 2) = true := by simpa using hk
  clear hg hr hps  hk
  have HB0 := Lib.hid ((Below.refl w.heap.size w).alloc (Nat.le_refl _) (.cells x.cells.toArray 40))
  have HA0 := Lib.hid (Blk.new w 40 x.cells.toArray)
  obtain ⟨c0, c1, c8, c9⟩ := HA0.out.ja4
  go_enter Tryd.func10, Tryd.ntmps10
  go_wp2_with (first
    | ((with_reducible show wpList _ _ _ ({ dst := some 54, op := .load 38 _, type := _, pos := _, after := _, guard := _ } :: _) _ _); refine wpList_yields (S := fun w' => MgAt w' w.heap.size 10 x.m) (y_mg (by rfl) (.tmp 53) (by rfl) w.heap.size 10 (by rfl) x.m (fun _ h => h)) HA0.out.jam ?_)
    | ((with_reducible show wpList _ _ _ ({ dst := some 61, op := .load 38 _, type := _, pos := _, after := _, guard := _ } :: _) _ _); refine wpList_yields (S := fun w' => MgAt w' w.heap.size 10 x.m) (y_mg (by rfl) (.tmp 60) (by rfl) w.heap.size 10 (by rfl) x.m (fun _ h => h)) HA1.out.jam ?_)
    | (go_at_call 24; refine (HG.out _ HB0.out).mono ?_; rintro e w1 ⟨rfl, s1, f1⟩; have HF1 := Lib.hid ((Fr.of_below HB0.out : Fr (fun k => k ∈ ps) w _).trans f1); have HA1 := Lib.hid (show Blk _ _ _ _ from (f1.block _ HA0.out.lt (fun hm => by have := HPS.out _ hm; omega)).trans HA0.out); have HS1 := Lib.hid s1; clear s1 f1 c0 c1 c8 c9; obtain ⟨c0, c1, c8, c9⟩ := HA1.out.ja4)
    | (go_at_call 25; refine (HR.out _ HF1.out).mono ?_; rintro e w2 ⟨L2, c2', rfl, hl2, hr2, b2⟩; have HL2 := Lib.hid hl2; have HF2 := Lib.hid (HF1.out.below b2); have HR2 := Lib.hid hr2; have HS2 := Lib.hid (HS1.out.below b2); clear b2 hl2 hr2))
  go_ret2
  exact ⟨L2, c2', rfl, HL2.out.imp id (fun ⟨q, h1, h2⟩ => ⟨q, h1, by have := HF1.out.size; omega⟩), HS2.out, HR2.out, HF2.out⟩
set_option maxRecDepth 100000 in
set_option maxHeartbeats 2000000 in
theorem does_3 (x : Ja) (h1 : x.k ≠ 1) (h2 : x.k ≠ 2) (v : Int) (hps : ∀ k ∈ ps, k < w.heap.size) (hg : ∀ W, Below w.heap.size w W → Calls Tryd.prog 26 #[pv p, .int .i64 x.i, .int .i64 x.s] W fun e w' => e = .returned (.int .i64 v) ∧ StAt w' base p A cap ps os' ∧ Fr (fun k => k ∈ ps) W w')
    (hr : ∀ W, Fr (fun k => k ∈ ps) w W → Calls Tryd.prog 27 #[.slice L n c, .int .i64 x.i, .int .i64 x.s] W fun e w' => ∃ L' c', e = .returned (.tuple #[.slice L' n c', .int .i64 v]) ∧ (L' = L ∨ ∃ q, L' = some ⟨q, 0, none⟩ ∧ W.heap.size ≤ q) ∧ RdO w' L' os' ∧ Below W.heap.size W w') :
    Calls Tryd.prog 10 #[pv p, .slice L n c, x.val] w fun e w' => ∃ L' c', e = .returned (.tuple #[.slice L' n c', .bool true]) ∧ (L' = L ∨ ∃ q, L' = some ⟨q, 0, none⟩ ∧ w.heap.size ≤ q) ∧ StAt w' base p A cap ps os' ∧ RdO w' L' os' ∧ Fr (fun k => k ∈ ps) w w' := by
  have hal := x.len
  have HPS := Lib.hid hps
  have HG := Lib.hid hg
  have HR := Lib.hid hr
  have e1 : (x.k == 1) = false := by simpa using h1
  have e2 : (x.k == 2) = false := by simpa using h2
  clear hg hr hps  h1 h2
  have HB0 := Lib.hid ((Below.refl w.heap.size w).alloc (Nat.le_refl _) (.cells x.cells.toArray 40))
  have HA0 := Lib.hid (Blk.new w 40 x.cells.toArray)
  obtain ⟨c0, c1, c8, c9⟩ := HA0.out.ja4
  go_enter Tryd.func10, Tryd.ntmps10
  go_wp2_with (first
    | fail
    | (go_at_call 26; refine (HG.out _ HB0.out).mono ?_; rintro e w1 ⟨rfl, s1, f1⟩; have HF1 := Lib.hid ((Fr.of_below HB0.out : Fr (fun k => k ∈ ps) w _).trans f1); have HA1 := Lib.hid (show Blk _ _ _ _ from (f1.block _ HA0.out.lt (fun hm => by have := HPS.out _ hm; omega)).trans HA0.out); have HS1 := Lib.hid s1; clear s1 f1 c0 c1 c8 c9; obtain ⟨c0, c1, c8, c9⟩ := HA1.out.ja4)
    | (go_at_call 27; refine (HR.out _ HF1.out).mono ?_; rintro e w2 ⟨L2, c2', rfl, hl2, hr2, b2⟩; have HL2 := Lib.hid hl2; have HF2 := Lib.hid (HF1.out.below b2); have HR2 := Lib.hid hr2; have HS2 := Lib.hid (HS1.out.below b2); clear b2 hl2 hr2))
  go_ret2
  exact ⟨L2, c2', rfl, HL2.out.imp id (fun ⟨q, h1, h2⟩ => ⟨q, h1, by have := HF1.out.size; omega⟩), HS2.out, HR2.out, HF2.out⟩
end
/-- what a call leaves, and its error -/
noncomputable def doesA (os : List Oj) (x : Ja) : List Oj × Int := if x.k = 1 then invA os x.i x.x x.md x.m else if x.k = 2 then ansA os x.i x.m else becA os x.i x.s
section
variable {w : World} {base p : Nat} {A : Option Addr} {cap : Nat} {ps : List Nat} {os : List Oj} {L : Option Addr} {n c : Nat}
set_option maxRecDepth 8000 in
theorem doesA_len (os : List Oj) (x : Ja) : (doesA os x).1.length = os.length := by
  unfold doesA
  split
  · exact invA_len _ _ _ _ _
  · split
    · exact ansA_len _ _ _
    · exact becA_len _ _ _
set_option maxRecDepth 8000 in
theorem ansA_bad {os : List Oj} {i : Int} {m : Mg} (h : (ansA os i m).2 ≠ 0) : (ansA os i m).1 = os := by
  revert h
  unfold ansA
  split <;> (try split) <;> simp
set_option maxRecDepth 8000 in
theorem becA_bad {os : List Oj} {i s : Int} (h : (becA os i s).2 ≠ 0) : (becA os i s).1 = os := by
  revert h
  unfold becA
  split <;> (try split) <;> simp
set_option maxRecDepth 8000 in
theorem doesA_ok {os : List Oj} (h : okAll os.length os) (hN : os.length ≤ 64) (x : Ja) : okAll os.length (doesA os x).1 := by
  unfold doesA
  split
  · exact invA_ok h hN _ _ _ _
  · split
    · exact ansA_ok h _ _
    · exact becA_ok h _ _
set_option maxRecDepth 8000 in
theorem does_any (h : StAt w base p A cap ps os) (hl : os.length = n) (h0 : 0 < n) (hN : n ≤ 64) (ho : okAll n os) (hT : TabB base w) (hr : RdO w L os) (hfar : ∀ q, L = some q → q.block ∉ ps) (x : Ja) :
    Calls Tryd.prog 10 #[pv p, .slice L n c, x.val] w fun e w' => ∃ L' c', e = .returned (.tuple #[.slice L' n c', .bool true]) ∧ (L' = L ∨ ∃ q, L' = some ⟨q, 0, none⟩ ∧ w.heap.size ≤ q) ∧ StAt w' base p A cap ps (doesA os x).1 ∧ RdO w' L' (doesA os x).1 ∧ Fr (fun k => k ∈ ps) w w' := by
  subst hl
  have hps : ∀ k ∈ ps, k < w.heap.size := fun k hk => (h.lt k (.inr (.inr hk))).2
  by_cases h1 : x.k = 1
  · have e : doesA os x = invA os x.i x.x x.md x.m := by unfold doesA; rw [if_pos h1]
    rw [e]
    refine does_1 (os' := (invA os x.i x.x x.md x.m).1) x h1 _ hps (fun W hW => inv_all (h.below hW) ho h0 hN (hT.up h hW) x.i x.x x.md x.m) (fun W hW => ?_)
    by_cases hv : (invA os x.i x.x x.md x.m).2 = 0
    · rw [hv]
      refine (rin_yes (hr.fr hW hfar) rfl (by omega) h0 ho _ _ _ _ hv).mono ?_
      rintro e w' ⟨g, c', rfl, hg, hr', hb⟩
      exact ⟨_, c', rfl, .inr ⟨g, rfl, hg⟩, hr', hb⟩
    · refine (rin_no (hr.fr hW hfar) rfl (by omega) h0 ho _ _ _ _ rfl hv).mono ?_
      rintro e w' ⟨rfl, hb⟩
      refine ⟨L, c, rfl, .inl rfl, ?_, hb⟩
      rw [invA_bad hv]
      exact (hr.fr hW hfar).below hb
  · by_cases h2 : x.k = 2
    · have e : doesA os x = ansA os x.i x.m := by unfold doesA; rw [if_neg h1, if_pos h2]
      rw [e]
      refine does_2 (os' := (ansA os x.i x.m).1) x h2 _ hps (fun W hW => ans_all (h.below hW) ho h0 (hT.up h hW) x.i x.m) (fun W hW => ?_)
      by_cases hv : (ansA os x.i x.m).2 = 0
      · rw [hv]
        refine (ran_yes (hr.fr hW hfar) rfl (by omega) h0 _ _ hv).mono ?_
        rintro e w' ⟨g, c', rfl, hg, hr', hb⟩
        exact ⟨_, c', rfl, .inr ⟨g, rfl, hg⟩, hr', hb⟩
      · refine (ran_no (hr.fr hW hfar) rfl h0 _ _ rfl hv).mono ?_
        rintro e w' ⟨rfl, hb⟩
        refine ⟨L, c, rfl, .inl rfl, ?_, hb⟩
        rw [ansA_bad hv]
        exact (hr.fr hW hfar).below hb
    · have e : doesA os x = becA os x.i x.s := by unfold doesA; rw [if_neg h1, if_neg h2]
      rw [e]
      refine does_3 (os' := (becA os x.i x.s).1) x h1 h2 _ hps (fun W hW => bec_all (h.below hW) ho h0 (hT.up h hW) x.i x.s) (fun W hW => ?_)
      by_cases hv : (becA os x.i x.s).2 = 0
      · rw [hv]
        refine (rbe_yes (hr.fr hW hfar) rfl (by omega) _ _ hv).mono ?_
        rintro e w' ⟨g, c', rfl, hg, hr', hb⟩
        exact ⟨_, c', rfl, .inr ⟨g, rfl, hg⟩, hr', hb⟩
      · refine (rbe_no (hr.fr hW hfar) rfl h0 _ _ rfl hv).mono ?_
        rintro e w' ⟨rfl, rfl⟩
        refine ⟨L, c, rfl, .inl rfl, ?_, Below.refl _ _⟩
        rw [becA_bad hv]
        exact hr.fr hW hfar
end
end Go.Proofs.YtljfddeolapeaaaDoor

/- law 13: states: what each process is, what it was told, and which run, by the program and by the document. -/
namespace Go.Proofs.YtljfddeolapeaaaDoor
open List renaming getElem_toArray → zq1, getElem_cons_succ → zq2, getElem_cons_zero → zq3, setIfInBounds_toArray → zq4, set_cons_zero → zq5, set_cons_succ → zq6
open Go.RowKit
attribute [local go_sem] Oper.semAt_some
section
variable {w : World} {base p : Nat} {A : Option Addr} {cap : Nat} {ps : List Nat} {os : List Oj} {L : Option Addr} {n c : Nat}
set_option maxRecDepth 8000 in
theorem stt_n (h : StAt w base p A cap ps os) (hn : 0 < os.length) (i : Int) (hs : stA os i = none) : Calls Tryd.prog 22 #[pv p, .int .i64 i] w fun e w' => e = .returned (.tuple #[.int .i64 0, .bool false]) ∧ Below w.heap.size w w' := by
  have := stt_all h hn i
  rwa [hs] at this
set_option maxRecDepth 8000 in
theorem stt_s (h : StAt w base p A cap ps os) (hn : 0 < os.length) (i v : Int) (hs : stA os i = some v) : Calls Tryd.prog 22 #[pv p, .int .i64 i] w fun e w' => e = .returned (.tuple #[.int .i64 v, .bool true]) ∧ Below w.heap.size w w' := by
  have := stt_all h hn i
  rwa [hs] at this
set_option maxRecDepth 8000 in
theorem tol_m (h : StAt w base p A cap ps os) (hn : 0 < os.length) (hT : Tab w) (i : Int) {m : Mg} {v : Int} (hm : tolA os i = (m, v)) : Calls Tryd.prog 21 #[pv p, .int .i64 i] w fun e w' => e = .returned (.tuple #[m.val, .int .i64 v]) ∧ Below w.heap.size w w' := by
  have := tol_all h hn hT i
  rwa [hm] at this
set_option maxRecDepth 8000 in
theorem rto_m (hr : RdO w L os) (hn : os.length = n) (hl : n ≤ 1000) (h0 : 0 < n) (i : Int) {m : Mg} {v : Int} (hm : tolA os i = (m, v)) : Calls Tryd.prog 30 #[.slice L n c, .int .i64 i] w fun e w' => e = .returned (.tuple #[m.val, .int .i64 v]) ∧ Below w.heap.size w w' := by
  have := rto_any (cap := c) hr hn hl h0 i
  rwa [hm] at this
theorem stA_bnd {i v : Int} (h : stA os i = some v) : 0 ≤ v ∧ v ≤ 2 := (stN_some (show stN (objA os i) = some v from h)).2.2.2
set_option maxRecDepth 100000 in
set_option maxHeartbeats 4000000 in
theorem states_any (h : StAt w base p A cap ps os) (hl : os.length = n) (h0 : 0 < n) (hN : n ≤ 1000) (hT : Tab w) (hr : RdO w L os) :
    Calls Tryd.prog 12 #[pv p, .slice L n c] w fun e w' => e = .returned (.bool true) ∧ Below w.heap.size w w' := by
  have hz := zM
  have hzl := mz.len
  have HS := Lib.hid h
  have HL := Lib.hid hl
  have HN := Lib.hid h0
  have HN0 := Lib.hid (show 0 < os.length by omega)
  have HN1 := Lib.hid hN
  have HN2 := Lib.hid (show os.length ≤ 1000 by omega)
  have HT := Lib.hid hT
  have HR := Lib.hid hr
  clear h hT hr
  go_enter Tryd.func12, Tryd.ntmps12
  go_wp2_with fail
  go_loopw [5, 6, 7, 8, 9, 10, 11, 12] (fun q5 _ _ _ _ _ _ _ wr => ∃ i : Int, -1 ≤ i ∧ i ≤ n + 1 ∧ q5 = .int .i64 i ∧ Below w.heap.size w wr) (fun q5 _ _ _ _ _ _ _ _ => (n + 2 - intOf q5).toNat)
  case atStart => exact ⟨-1, by omega, by omega, rfl, Below.refl _ _⟩
  case round =>
    obtain ⟨i, hi0, hi1, rfl, hb⟩ := hrel
    have HB := Lib.hid hb
    clear hb
    by_cases hlt : i ≤ n
    · have e0 : decide (i ≤ (n : Int)) = true := decide_eq_true hlt
      have hw : IntKind.i64.wrap (i + 1) = i + 1 := wrap64 (by omega)
      obtain ⟨⟨m, q⟩, hm⟩ : ∃ m, tolA os i = m := ⟨_, rfl⟩
      have HM := Lib.hid hm
      have hml := m.len
      clear hm
      cases hs : stA os i with
      | none =>
        have HV := Lib.hid hs
        have HV2 := Lib.hid (show (stA os i).getD (-1) = -1 by rw [hs]; rfl)
        clear hs
        go_wp2_with (first
          | (go_at_call 22; refine (stt_n (HS.out.below HB.out) HN0.out i HV.out).mono ?_; rintro e w1 ⟨rfl, b_⟩; have HB1 := Lib.hid (HB.out.trans (b_.mono HB.out.size)); clear b_)
          | (go_at_call 29; refine (rst_any (HR.out.below HB1.out) HL.out i HV2.out).mono ?_; rintro e w2 ⟨rfl, b_⟩; have HB2 := Lib.hid (HB1.out.trans (b_.mono HB1.out.size)); clear b_)
          | (go_at_call 21; refine (tol_m (HS.out.below HB2.out) HN0.out (HT.out.below HB2.out) i HM.out).mono ?_; rintro e w3 ⟨rfl, b_⟩; have HB3 := Lib.hid (HB2.out.trans (b_.mono HB2.out.size)); clear b_)
          | ((with_reducible show wpList _ _ _ (Oper.mk none (.store _ (.tmp 9) (.tmp 35)) _ _ _ _ :: _) _ _); refine wpList_store_new (l := m.cells) (l0 := mz.cells) (ty := 38) rfl (.tmp 9) (.tmp 35) (by rfl) w3.heap.size (by rfl) (by rfl) (by rfl) (by rw [Mg.len]; exact sizeM) (by rw [Mg.len, Mg.len]) (Mg.one _) ?_; have HB4 := Lib.hid (HB3.out.alloc HB3.out.size (.cells m.cells.toArray 38)); have HX4 := Lib.hid (Blk.new w3 38 m.cells.toArray))
          | (go_at_call 30; refine (rto_m (HR.out.below HB4.out) HL.out HN1.out HN.out i HM.out).mono ?_; rintro e w5 ⟨rfl, b_⟩; have HB5 := Lib.hid (HB4.out.trans (b_.mono HB4.out.size)); have HX5 := Lib.hid (HX4.out.keep b_); clear b_)
          | ((with_reducible show wpList _ _ _ (Oper.mk none (.store _ (.tmp 11) (.tmp 41)) _ _ _ _ :: _) _ _); refine wpList_store_new (l := m.cells) (l0 := mz.cells) (ty := 38) rfl (.tmp 11) (.tmp 41) (by rfl) w5.heap.size (by rfl) (by rfl) (by rfl) (by rw [Mg.len]; exact sizeM) (by rw [Mg.len, Mg.len]) (Mg.one _) ?_; have HB6 := Lib.hid (HB5.out.alloc HB5.out.size (.cells m.cells.toArray 38)); have HX6 := Lib.hid (HX5.out.alloc (.cells m.cells.toArray 38)); have HY6 := Lib.hid (Blk.new w5 38 m.cells.toArray))
          | ((with_reducible show wpList _ _ _ (Oper.mk (some 54) (.load _ _) _ _ _ _ :: _) _ _); refine wpList_yields (S := fun w' => MgAt w' w3.heap.size 0 m) (y_mg (by rfl) (.tmp 9) (by rfl) w3.heap.size 0 (by rfl) m (fun _ h => h)) HX6.out.mg ?_)
          | ((with_reducible show wpList _ _ _ (Oper.mk (some 55) (.load _ _) _ _ _ _ :: _) _ _); refine wpList_yields (S := fun w' => MgAt w' w5.heap.size 0 m) (y_mg (by rfl) (.tmp 11) (by rfl) w5.heap.size 0 (by rfl) m (fun _ h => h)) HY6.out.mg ?_)
          | ((with_reducible show wpList _ _ _ (Oper.mk (some 56) (.binOp _ _ _ _ _) _ _ _ _ :: _) _ _); refine wpList_yields (S := fun _ => True) (y_mgne (by rfl) (by rfl) m (by rfl) (by rfl)) trivial ?_))
        go_roundw
        case rel => exact ⟨i + 1, by omega, by omega, by first | rfl | rw [hw], HB6.out⟩
        case measure => simp [intOf]; omega
      | some v =>
        have HV := Lib.hid hs
        have HV2 := Lib.hid (show (stA os i).getD (-1) = v by rw [hs]; rfl)
        have hv := stA_bnd hs
        have dv0 : decide (0 ≤ v) = true := decide_eq_true hv.1
        have dv1 : (if (0 : Int) > v then (0 : Int) else v) = v := if_neg (by omega)
        have dv2 : (if v < (0 : Int) then (0 : Int) else v) = v := if_neg (by omega)
        clear hs hv
        go_wp2_with (first
          | (go_at_call 22; refine (stt_s (HS.out.below HB.out) HN0.out i v HV.out).mono ?_; rintro e w1 ⟨rfl, b_⟩; have HB1 := Lib.hid (HB.out.trans (b_.mono HB.out.size)); clear b_)
          | (go_at_call 29; refine (rst_any (HR.out.below HB1.out) HL.out i HV2.out).mono ?_; rintro e w2 ⟨rfl, b_⟩; have HB2 := Lib.hid (HB1.out.trans (b_.mono HB1.out.size)); clear b_)
          | (go_at_call 21; refine (tol_m (HS.out.below HB2.out) HN0.out (HT.out.below HB2.out) i HM.out).mono ?_; rintro e w3 ⟨rfl, b_⟩; have HB3 := Lib.hid (HB2.out.trans (b_.mono HB2.out.size)); clear b_)
          | ((with_reducible show wpList _ _ _ (Oper.mk none (.store _ (.tmp 9) (.tmp 35)) _ _ _ _ :: _) _ _); refine wpList_store_new (l := m.cells) (l0 := mz.cells) (ty := 38) rfl (.tmp 9) (.tmp 35) (by rfl) w3.heap.size (by rfl) (by rfl) (by rfl) (by rw [Mg.len]; exact sizeM) (by rw [Mg.len, Mg.len]) (Mg.one _) ?_; have HB4 := Lib.hid (HB3.out.alloc HB3.out.size (.cells m.cells.toArray 38)); have HX4 := Lib.hid (Blk.new w3 38 m.cells.toArray))
          | (go_at_call 30; refine (rto_m (HR.out.below HB4.out) HL.out HN1.out HN.out i HM.out).mono ?_; rintro e w5 ⟨rfl, b_⟩; have HB5 := Lib.hid (HB4.out.trans (b_.mono HB4.out.size)); have HX5 := Lib.hid (HX4.out.keep b_); clear b_)
          | ((with_reducible show wpList _ _ _ (Oper.mk none (.store _ (.tmp 11) (.tmp 41)) _ _ _ _ :: _) _ _); refine wpList_store_new (l := m.cells) (l0 := mz.cells) (ty := 38) rfl (.tmp 11) (.tmp 41) (by rfl) w5.heap.size (by rfl) (by rfl) (by rfl) (by rw [Mg.len]; exact sizeM) (by rw [Mg.len, Mg.len]) (Mg.one _) ?_; have HB6 := Lib.hid (HB5.out.alloc HB5.out.size (.cells m.cells.toArray 38)); have HX6 := Lib.hid (HX5.out.alloc (.cells m.cells.toArray 38)); have HY6 := Lib.hid (Blk.new w5 38 m.cells.toArray))
          | ((with_reducible show wpList _ _ _ (Oper.mk (some 54) (.load _ _) _ _ _ _ :: _) _ _); refine wpList_yields (S := fun w' => MgAt w' w3.heap.size 0 m) (y_mg (by rfl) (.tmp 9) (by rfl) w3.heap.size 0 (by rfl) m (fun _ h => h)) HX6.out.mg ?_)
          | ((with_reducible show wpList _ _ _ (Oper.mk (some 55) (.load _ _) _ _ _ _ :: _) _ _); refine wpList_yields (S := fun w' => MgAt w' w5.heap.size 0 m) (y_mg (by rfl) (.tmp 11) (by rfl) w5.heap.size 0 (by rfl) m (fun _ h => h)) HY6.out.mg ?_)
          | ((with_reducible show wpList _ _ _ (Oper.mk (some 56) (.binOp _ _ _ _ _) _ _ _ _ :: _) _ _); refine wpList_yields (S := fun _ => True) (y_mgne (by rfl) (by rfl) m (by rfl) (by rfl)) trivial ?_))
        go_roundw
        case rel => exact ⟨i + 1, by omega, by omega, by first | rfl | rw [hw], HB6.out⟩
        case measure => simp [intOf]; omega
    · have e0 : decide (i ≤ (n : Int)) = false := decide_eq_false hlt
      obtain ⟨xs, hxs⟩ : ∃ xs, runA os = xs := ⟨_, rfl⟩
      have HX := Lib.hid hxs
      have hxl : xs.length ≤ 1000 := by
        have := List.length_filter_le (fun (i : Nat) => decide (stA os (i : Int) = some 1)) (List.range os.length)
        rw [List.length_range] at this
        rw [← hxs]
        unfold runA
        omega
      go_wp2_with (first
        | (go_at_call 16; refine (running_at (HS.out.below HB.out) HN0.out HN2.out).mono ?_; rintro e w1 ⟨v1, rfl, ow1, b_⟩; rw [HX.out] at ow1; obtain ⟨A1, c1, rfl, ra⟩ := rdi_of ow1; have RA1 := Lib.hid ra; have HB1 := Lib.hid (HB.out.trans (b_.mono HB.out.size)); clear b_ ow1 ra)
        | (go_at_call 31; refine (rrun_any (HR.out.below HB1.out) HL.out HN1.out).mono ?_; rintro e w2 ⟨v2, rfl, ow2, b_⟩; rw [HX.out] at ow2; obtain ⟨A2, c2, rfl, rb⟩ := rdi_of ow2; have RB2 := Lib.hid rb; have RA2 := Lib.hid (RA1.out.below b_); have HB2 := Lib.hid (HB1.out.trans (b_.mono HB1.out.size)); clear b_ ow2 rb))
      clear hxs
      go_loopw [15] (fun q wr => ∃ k : Nat, k ≤ xs.length ∧ q = .int .i64 k ∧ Below w2.heap.size w2 wr) (fun q _ => xs.length + 1 - (intOf q).toNat)
      case atStart => exact ⟨0, by omega, rfl, Below.refl _ _⟩
      case round =>
        obtain ⟨k, hk, rfl, hb⟩ := hrel
        have HB3 := Lib.hid hb
        clear hb
        by_cases hkl : k < xs.length
        · have f0 : decide ((k : Int) < (xs.length : Int)) = true := decide_eq_true (by omega)
          have f1 : decide (k < xs.length) = true := decide_eq_true hkl
          have i1 : (0 : Int) ≤ (k : Int) := by omega
          have i2 : (k : Int) < (xs.length : Int) := by omega
          obtain ⟨ga, rfl, ca⟩ := RA2.out k hkl
          obtain ⟨gb, rfl, cb⟩ := RB2.out k hkl
          obtain ⟨x, hx⟩ : ∃ x, xs[k] = x := ⟨_, rfl⟩
          rw [hx] at ca cb
          have CA := Lib.hid ((World.cell?_of_block (a := ⟨ga, k, none⟩) (HB3.out.block ga (cell_lt ca))).trans ca)
          have CB := Lib.hid ((World.cell?_of_block (a := ⟨gb, k, none⟩) (HB3.out.block gb (cell_lt cb))).trans cb)
          clear ca cb hx
          go_wp2_with fail
          refine wp_region_only (S := fun W => W.cell? ⟨ga, k, none⟩ = some (.int .i64 (x : Int)) ∧ W.cell? ⟨gb, k, none⟩ = some (.int .i64 (x : Int))) (by kernel_rfl) ⟨CA.out, CB.out⟩ (fun hHeld => ?_)
          refine wpAnyH_take (i := 0) (v := ?v1) rfl (by kernel_rfl) (by kernel_rfl) (by kernel_rfl) (fun _ _ _ h => h) (Or.inl ⟨by rfl, ?hy1⟩) hHeld ?rest1
          case hy1 =>
            intro w' hSw
            try dsimp only at hSw
            go_simp
            first | done | with_reducible rfl
          try simp only [Act.put, zq1, zq3, zq4, zq5, zq6]
          refine wpAnyH_take (i := 1) (v := ?v2) rfl (by kernel_rfl) (by kernel_rfl) (by kernel_rfl) (fun _ _ _ h => h) (Or.inl ⟨by rfl, ?hy2⟩) hHeld ?rest2
          case hy2 =>
            intro w' hSw
            try dsimp only at hSw
            go_simp
            first | done | with_reducible rfl
          try simp only [Act.put, zq1, zq2, zq3, zq4, zq5, zq6]
          refine wpAnyH_take (i := 2) (v := ?v3) rfl (by kernel_rfl) (by kernel_rfl) (by kernel_rfl) (fun _ _ _ h => h) (Or.inl ⟨by rfl, ?hy3⟩) hHeld ?rest3
          case hy3 =>
            intro w' hSw
            try dsimp only at hSw
            go_simp
            first | done | with_reducible rfl
          try simp only [Act.put, zq1, zq2, zq3, zq4, zq5, zq6]
          refine wpAnyH_take (i := 3) (v := ?v4) rfl (by kernel_rfl) (by kernel_rfl) (by kernel_rfl) (fun _ _ _ h => h) (Or.inl ⟨by rfl, ?hy4⟩) hHeld ?rest4
          case hy4 =>
            intro w' hSw
            try dsimp only at hSw
            go_simp
            first | done | with_reducible rfl
          try simp only [Act.put, zq1, zq2, zq3, zq4, zq5, zq6]
          refine wpAnyH_take (i := 4) (v := ?v5) rfl (by kernel_rfl) (by kernel_rfl) (by kernel_rfl) (fun _ _ _ h => h) (Or.inl ⟨by rfl, ?hy5⟩) hHeld ?rest5
          case hy5 =>
            intro w' hSw
            try dsimp only at hSw
            go_simp
            first | done | with_reducible rfl
          try simp only [Act.put, zq1, zq2, zq3, zq4, zq5, zq6]
          refine wpAnyH_take (i := 5) (v := ?v6) rfl (by kernel_rfl) (by kernel_rfl) (by kernel_rfl) (fun _ _ _ h => h) (Or.inl ⟨by rfl, ?hy6⟩) hHeld ?rest6
          case hy6 =>
            intro w' hSw
            try dsimp only at hSw
            go_simp
            first | done | with_reducible rfl
          try simp only [Act.put, zq1, zq2, zq3, zq4, zq5, zq6]
          refine wpAnyH_take (i := 6) (v := ?v7) rfl (by kernel_rfl) (by kernel_rfl) (by kernel_rfl) (fun _ _ _ h => h) (Or.inl ⟨by rfl, ?hy7⟩) hHeld ?rest7
          case hy7 =>
            intro w' hSw
            try dsimp only at hSw
            go_simp
            first | done | with_reducible rfl
          try simp only [Act.put, zq1, zq2, zq3, zq4, zq5, zq6]
          refine wpAnyH_take (i := 7) (v := ?v8) rfl (by kernel_rfl) (by kernel_rfl) (by kernel_rfl) (fun _ _ _ h => h) (Or.inl ⟨by rfl, ?hy8⟩) hHeld ?rest8
          case hy8 =>
            intro w' hSw
            try dsimp only at hSw
            go_simp
            first | done | with_reducible rfl
          try simp only [Act.put, zq1, zq2, zq3, zq4, zq5, zq6]
          refine wpAnyH_take (i := 8) (v := ?v9) rfl (by kernel_rfl) (by kernel_rfl) (by kernel_rfl) (fun _ _ _ h => h) (Or.inl ⟨by rfl, ?hy9⟩) hHeld ?rest9
          case hy9 =>
            intro w' hSw
            try dsimp only at hSw
            go_simp
            first | done | with_reducible rfl
          try simp only [Act.put, zq1, zq2, zq3, zq4, zq5, zq6]
          refine wpAnyH_done (by kernel_rfl) ?_ _
          refine OnlyN.normal ?_
          go_wp2_with fail
          go_roundw
          case rel => exact ⟨k + 1, by omega, by go_num, below_drew HB3.out⟩
          case measure => simp [intOf]; omega
        · obtain rfl : k = xs.length := by omega
          have f0 : decide ((xs.length : Int) < (xs.length : Int)) = false := decide_eq_false (by omega)
          have f1 : decide (xs.length < xs.length) = false := decide_eq_false (by omega)
          go_wp2_with fail
          go_ret
          exact ⟨rfl, HB2.out.trans (HB3.out.mono HB2.out.size)⟩
end
end Go.Proofs.YtljfddeolapeaaaDoor

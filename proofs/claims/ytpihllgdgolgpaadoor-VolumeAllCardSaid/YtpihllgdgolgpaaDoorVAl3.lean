/- volume: All, and a range over it: words for the law. -/
import Derived.Test.YtpihllgdgolgpaaDoorVAl2
namespace Go.Proofs.YtpihllgdgolgpaaDoor
open Go.RowKit Go.Shelf
attribute [local go_sem] Oper.semAt_some
set_option maxRecDepth 8000 in
theorem vall_any (n : Int) (w : World) : Calls Tryd.prog 4 #[plan n] w fun e w' => e = .returned (.func (.func 8) #[] #[pv w.heap.size]) ∧ w' = w.alloc (.cells #[.int .i64 n] 23) := by
  go_enter Tryd.func4, Tryd.ntmps4
  go_wp2
  go_ret
  exact ⟨rfl, rfl⟩
set_option maxRecDepth 100000 in
set_option maxHeartbeats 1000000 in
/-- of a plan that is not right nothing comes -/
theorem vall1_no (n : Int) (m : Nat) (hn : 2 ≤ m) (hm : ¬ (1 ≤ n ∧ n ≤ 64)) (bp : Nat) (w0 : World) (hbp : Blk w0 bp 23 #[.int .i64 n]) :
    SeqO Fence.wide m Tryd.prog 8 #[pv bp] (fun y : Ia 0 => #[.int .i64 (y.i : Int), (plc 0 y.i).val]) KA (fun xs => xs = []) (fun _ => False) 0 w0 := by
  intro l J Jx W hlt0 hb hJ hJx hY h0
  have hFw : ∀ f, Fence.wide.fn f := fun _ => trivial
  have HJ := Lib.hid hJ
  have HM := Lib.hid hm
  have hn1 : 1 ≤ m := by omega
  have H0 := Lib.hid (hJ.alloc (.cells #[.func (.yield l) #[] #[]] 34) h0)
  have HBP1 := Lib.hid ((Blk.keep hbp hb).alloc (.cells #[.func (.yield l) #[] #[]] 34))
  have c0 := HBP1.out.one
  have d0 : decide ((0 : Int) < 0) = false := rfl
  clear hbp hJ hJx hY hb hlt0 hm h0
  refine callsIn_of_wp_marks Tryd.func8 rfl trivial ?_ rfl
  simp only [Tryd.ntmps8, List.size_toArray, List.length_cons, List.length_nil, Nat.reduceAdd, Nat.reduceSub, Array.replicate_succ, Array.replicate_zero, List.push_toArray, List.append_toArray, List.nil_append, List.cons_append]
  gi_wp2_with (gi_at_call 9; refine ((callsIn_wide (n := m - 1)).2 (parts_no n _ HM.out)).mono ?_; rintro e w1 ⟨rfl, hb1⟩; have J1 := Lib.hid (HJ.out _ _ _ none H0.out (grown_of_below hb1) (fun _ e => by cases e)); clear hb1 c0)
  refine wpIn_loop_rounds 1 ?_
  rw [roundsIn_succ]
  gi_wp2
  exact leaves_mks (B := W.heap.size) rfl (fun V => J [] V ∧ True) (fun w D hg hB hD => ⟨HJ.out.putObj _ hg.1 hB hD rfl, trivial⟩) (fun V hV => ⟨⟨_, rfl⟩, .inl ⟨[], rfl, hV.1⟩⟩) [] _ ⟨by simp, by simp⟩ ⟨J1.out, trivial⟩
set_option maxRecDepth 8000 in
/-- within a fence: append of a place that was boxed last -/
theorem wpListIn_append_sp {F : Fence} {m : Nat} {ops : Array Oper} {rest : List Oper} {o : Oper} {a : Act} {Q : Exit → Act → World → Prop} {W : World} (hgd : o.guard = none) (s x : Operand) (ho : o.op = .call { callee := .builtin .append, args := #[s, x], argTypes := #[27, 27] })
    {base n : Nat} {v : Value} {xs : List Sp} (hs : a.eval s = v) (hown : W.ownsRow base 30 3 v n (scs xs)) (q : Sp) (hx : a.eval x = .slice (some ⟨W.heap.size, 0, none⟩) 1 1) (hn : n ≤ 1000) (hbase : base ≤ W.heap.size)
    (h : ∀ g c w', w'.ownsRow base 30 3 (.slice (some ⟨g, 0, none⟩) (n + 1) c) (n + 1) (scs (xs ++ [q])) → (W.alloc (.cells q.cs.toArray 30)).grownBy w' v.ownBlock → wpListIn F m Tryd.prog ops Q rest (a.put o.dst (.slice (some ⟨g, 0, none⟩) (n + 1) c)) w') : wpListIn F m Tryd.prog ops Q (o :: rest) a (W.alloc (.cells q.cs.toArray 30)) := by
  obtain ⟨i0, hi, hz0, hz1, hz2⟩ := info_partsN infoS
  have hown2 : (W.alloc (.cells q.cs.toArray 30)).ownsRow base 30 3 v n (scs xs) := own_belowN hown ((Below.refl _ _).alloc (Nat.le_refl _) _)
  refine wpListIn_append_own _ hgd s x 27 ho base 30 i0 _ 3 24 Tryd.underlying27 hi hz0 hz1 hz2 rfl (by decide) v n (scs xs) hs hown2 ⟨W.heap.size, 0, none⟩ 1 1 q.cs hx rfl ?_ (by simp [Value.oneCell']) (by simp only [maxLen]; omega) (by omega) (by simp; omega) ?_
  · intro j u hu
    rw [add_flat, Nat.zero_add]
    have := (Blk.new W 30 q.cs.toArray).cell j
    rw [this]
    simpa using hu
  · intro v' w' h1 h2 _
    have h1' := h1
    obtain ⟨_, ⟨_, h0⟩ | ⟨g, c, cur, rfl, _⟩⟩ := h1'
    · omega
    · exact h g c w' (by rw [scs_snoc]; exact h1) h2
theorem KA.alloc {l : Nat} (A : World) (o : Obj) : KA l A (A.alloc o) :=
  ⟨fun i cs t _ hi => (Below.heap_alloc A o i (Array.getElem?_eq_some_iff.1 hi).1).trans hi, fun i _ _ hi _ => (Below.heap_alloc A o i (Array.getElem?_eq_some_iff.1 hi).1).trans hi, by simp⟩
set_option maxRecDepth 8000 in
theorem KA.grown {l base n : Nat} {A C : World} {v : Value} {xs : List Value} (hg : A.grownBy C v.ownBlock) (ho : A.ownsRow base 30 3 v n xs) : KA l A C := by
  have key : ∀ k, some k = v.ownBlock → ∃ cur, A.heap[k]? = some (.cells cur 30 (0, 0)) := by
    intro k hk
    obtain ⟨_, ⟨rfl, _⟩ | ⟨g, c, cur, rfl, _, hc, _⟩⟩ := ho
    · cases hk
    · cases hk
      exact ⟨cur, hc⟩
  refine ⟨fun k cs t ht hk => ?_, fun k o _ hk hoc => ?_, hg.size⟩
  · by_cases e : some k = v.ownBlock
    · obtain ⟨cur, hc⟩ := key k e
      rw [hk] at hc
      cases hc
      exact absurd ht (by decide)
    · exact (hg.block k (Array.getElem?_eq_some_iff.1 hk).1 e).trans hk
  · by_cases e : some k = v.ownBlock
    · obtain ⟨cur, hc⟩ := key k e
      rw [hk] at hc
      cases hc
      cases hoc
    · exact (hg.block k (Array.getElem?_eq_some_iff.1 hk).1 e).trans hk
set_option maxRecDepth 8000 in
theorem KA.store {l b : Nat} {A : World} {t : TypeId} {cs : Array Value} (hb : Blk A b t cs) (ht : ¬ (t = 34 ∨ t = 40 ∨ t = 23)) (u : Value) : KA l A (A.setCell ⟨b, 0, none⟩ u) := by
  refine ⟨fun k cs' t' ht' hk => ?_, fun k o _ hk hoc => ?_, by simp [World.setCell]⟩
  · refine (Below.heap_setCell A _ u k (fun e => ?_)).trans hk
    simp only at e
    subst e
    unfold Blk at hb
    rw [hb] at hk
    cases hk
    exact ht ht'
  · refine (Below.heap_setCell A _ u k (fun e => ?_)).trans hk
    simp only at e
    subst e
    unfold Blk at hb
    rw [hb] at hk
    cases hk
    cases hoc
/-- all came in order -/
def okx {n : Nat} (xs : List (Ia n)) : Bool := decide (xs.map (·.i) = List.range xs.length)
set_option maxRecDepth 8000 in
theorem okx_snoc {n : Nat} (xs : List (Ia n)) (x : Ia n) : okx (xs ++ [x]) = (okx xs && decide (x.i = xs.length)) := by
  unfold okx
  rw [List.map_append, List.length_append, List.length_singleton, List.range_succ, ← Bool.decide_and]
  apply decide_eq_decide.2
  constructor
  · intro h
    obtain ⟨h1, h2⟩ := List.append_inj h (by simp)
    exact ⟨h1, by simpa using h2⟩
  · rintro ⟨h1, h2⟩
    rw [h1]
    simp [h2]
set_option maxRecDepth 8000 in
theorem EltsA.range {n k : Nat} {xs : List (Ia n)} (h : EltsA k xs) : xs.map (·.i) = List.range xs.length := by
  apply List.ext_getElem?
  intro i
  rw [List.getElem?_map]
  by_cases hi : i < xs.length
  · rw [List.getElem?_range hi, List.getElem?_eq_getElem hi]
    simp [h.2 i xs[i] (List.getElem?_eq_getElem hi)]
  · rw [List.getElem?_eq_none (by omega), List.getElem?_eq_none (by simp; omega)]
    rfl
theorem EltsA.okx {n k : Nat} {xs : List (Ia n)} (h : EltsA k xs) : okx xs = true := decide_eq_true h.range
set_option maxRecDepth 8000 in
theorem EltsA.preS {n k : Nat} {xs : List (Ia n)} (h : EltsA k xs) : xs.map (fun y => plc n y.i) = preS n k := by
  have e := h.range
  rw [h.1] at e
  rw [show xs.map (fun y => plc n y.i) = (xs.map (·.i)).map (plc n) by simp, e]
  rfl
end Go.Proofs.YtpihllgdgolgpaaDoor

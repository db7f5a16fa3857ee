/- A range over a function whose rounds may panic, whose elements may hang on what the rounds ahead did: the law, and the contract that it wants. It speaks of one function's frame (wpAt), for how a panic leaves a frame is known of a function that there is. -/
import Derived.RangeFuncNested
import Derived.RangeFuncBound
import Derived.RangeFuncCalls
import Derived.RangeFuncLeaves
import Derived.RangeFuncBox
import Derived.RangeFuncFrom
import Derived.WalkKit
namespace Go.Proofs.YtaoailohihoclaaDoor
open Go.RowKit
section
variable {P : Program} {n : Nat}
/-- a piece of code, walked in a frame of the function f -/
def wpAt (P : Program) (f : FuncId) (c : Code) (Q : Exit → Act → World → Prop) (a : Act) (w : World) : Prop :=
  ∀ (b : Frame) (k : List Item) (cs : List Frame), b.roundOf = none → b.fn = f → ∃ e a' w', Q e a' w' ∧ ArrivesIn (Machine.fenced P Fence.wide) P (lone (b.atR a (.code c :: k)) cs w) b k cs e a' w'
theorem room_any (m : Nat) : Fence.wide.room m := fun d hd => by cases hd
theorem wpAt_of {f : FuncId} {c : Code} {Q : Exit → Act → World → Prop} {a : Act} {w : World} (h : c.wpIn Fence.wide n P Q a w) : wpAt P f c Q a w :=
  fun b k cs hro _ => h b k cs hro trivial (room_any _)
set_option maxRecDepth 8000 in
theorem wpAt_seq {f : FuncId} {x y : Code} {Q : Exit → Act → World → Prop} {a : Act} {w : World} (h : wpAt P f x (Exit.then (fun a w => wpAt P f y Q a w) Q) a w) : wpAt P f (.seq x y) Q a w := by
  intro b k cs hro hb
  have h0 : (lone (b.atR a (.code (.seq x y) :: k)) cs w).fenced P Fence.wide := fenced_wide P _
  obtain ⟨e, a₁, w₁, hq, harr⟩ := h b (.code y :: k) cs hro hb
  cases e with
  | normal =>
    obtain ⟨e₂, a₂, w₂, hq₂, harr₂⟩ := hq b k cs hro hb
    exact ⟨e₂, a₂, w₂, hq₂, .of_steps (.head h0 stepR_seq harr) harr₂⟩
  | exit id => exact ⟨_, a₁, w₁, hq, .of_steps (.one h0 stepR_seq) (.pass (x := .code y) rfl (fun _ _ => .inl (by simp)) harr)⟩
  | goto l => exact ⟨_, a₁, w₁, hq, .of_steps (.one h0 stepR_seq) (.pass (x := .code y) rfl (fun _ _ => .inl (by simp)) harr)⟩
  | ret => exact ⟨_, a₁, w₁, hq, .of_steps (.one h0 stepR_seq) (.pass (x := .code y) rfl (fun _ _ => .inl (by simp)) harr)⟩
  | panic ch => exact ⟨_, a₁, w₁, hq, .of_steps (.one h0 stepR_seq) (.pass (x := .code y) rfl (fun _ _ => .inl (by simp)) harr)⟩
  | outgrown => exact ⟨_, a₁, w₁, hq, .of_steps (.one h0 stepR_seq) (.pass (x := .code y) rfl (fun _ _ => .inl (by simp)) harr)⟩
/-- the first part walked as ever, the second in the function's own frame -/
theorem wpAt_head {f : FuncId} {x y : Code} {Q : Exit → Act → World → Prop} {a : Act} {w : World} (h : x.wpIn Fence.wide n P (Exit.then (fun a w => wpAt P f y Q a w) Q) a w) : wpAt P f (.seq x y) Q a w := wpAt_seq (wpAt_of h)
theorem wpAt_mono {f : FuncId} {c : Code} {Q Q' : Exit → Act → World → Prop} {a : Act} {w : World} (h : wpAt P f c Q a w) (hq : ∀ e a w, Q e a w → Q' e a w) : wpAt P f c Q' a w := fun b k cs hro hb => by
  obtain ⟨e, a', w', q, r⟩ := h b k cs hro hb
  exact ⟨e, a', w', hq _ _ _ q, r⟩
set_option maxRecDepth 8000 in
/-- a function's contract out of its body's walk in its own frame -/
theorem calls_of_wpAt {f : FuncId} {fn : Func} {c : Code} {args : Array Value} {w : World} {R : Ending → World → Prop} (hf : P.funcs[f]? = some fn) (hb : fn.body = some c)
    (h : wpAt P f c (bodyPostM Fence.wide n P fn R) { tmps := args ++ Array.replicate (fn.ntmps - args.size) undef, defers := [] } w) : CallsIn Fence.wide n P f args w R := by
  refine ⟨trivial, fun cs hr => ?_⟩
  let b : Frame := { (default : Frame) with fn := f, kind := .normal, roundOf := none }
  have henter : Frame.enter P f args .normal = b.atR { tmps := args ++ Array.replicate (fn.ntmps - args.size) undef, defers := [] } [.code c] := by
    simp [Frame.enter, Frame.atR, hf, hb, b]
  obtain ⟨e, a', w', hq, harr⟩ := h b [] cs rfl rfl
  rw [← henter] at harr
  cases e with
  | normal =>
    obtain ⟨e', w'', fr', hR, hs, hfn, hl⟩ := leaves_stepsInM a'.defers .returning w' { b.atR a' [] with mode := .returning } cs rfl rfl rfl hf rfl trivial hr hq
    exact ⟨e', w'', fr', hR, ComesIn.of_steps (StepsIn.trans harr (.one (fenced_wide P _) (stepR_end rfl))) hs, hfn, hl⟩
  | ret =>
    obtain ⟨todo, hs₀⟩ := harr.1 rfl
    obtain ⟨e', w'', fr', hR, hs, hfn, hl⟩ := leaves_stepsInM a'.defers .returning w' { b.atR a' todo with mode := .returning } cs rfl rfl rfl hf rfl trivial hr hq
    exact ⟨e', w'', fr', hR, ComesIn.of_steps hs₀ hs, hfn, hl⟩
  | panic chain =>
    obtain ⟨todo, hs₀⟩ := harr
    obtain ⟨e', w'', fr', hR, hs, hfn, hl⟩ := leaves_stepsInM a'.defers (.panicking chain) w' { b.atR a' todo with mode := .panicking chain } cs rfl rfl rfl hf rfl trivial hr hq
    exact ⟨e', w'', fr', hR, ComesIn.of_steps hs₀ hs, hfn, hl⟩
  | exit id => exact hq.elim
  | goto l => exact hq.elim
  | outgrown => exact ⟨.outgrown, w', b, hq, harr.resolve_left (by simp [b]), rfl, trivial⟩
/-- what is asked at a round's end, of a panic too -/
def roundEnd (P : Program) (l : Nat) (R : Ending → World → Prop) : Exit → Act → World → Prop
  | .panic c, a, w => a.defers = [] ∧ R (.panicked c) w
  | .normal, a, w => roundPost P l R .normal a w
  | .ret, a, w => roundPost P l R .ret a w
  | .exit k, a, w => roundPost P l R (.exit k) a w
  | .goto t, a, w => roundPost P l R (.goto t) a w
  | .outgrown, _, _ => False
set_option maxRecDepth 8000 in
/-- one round of a function that there is -/
theorem round_of {l : Nat} {f : FuncId} {fn0 : Func} (hf : P.funcs[f]? = some fn0) {tmps : Array Value} {assign body : Code} {w : World} {R : Ending → World → Prop}
    (h : assign.wpIn (Fence.wide.inRound l) n P (Exit.then (fun a₁ w₁ => ∃ w₂, (Instr.beginRound l).run P w₁ = .ok () w₂ ∧ body.wpIn (Fence.wide.inRound l) n P (roundEnd P l R) a₁ w₂) (fun _ _ _ => False)) { tmps := tmps, defers := [] } w) :
    RoundIn Fence.wide n P l f tmps assign body w R := by
  refine ⟨trivial, fun c cs hr => ?_⟩
  let b : Frame := { (default : Frame) with fn := f, kind := .normal, roundOf := some l }
  have hb0 : Frame.round l f tmps assign body .normal = b.atR { tmps := tmps, defers := [] } [.code assign, .beginRound, .code body] := by
    simp [Frame.round, Frame.atR, b]
  have hr' : (Fence.wide.inRound l).room ((c :: cs).length + 1 + n) := hr
  have hF' : (Fence.wide.inRound l).fn b.fn := trivial
  obtain ⟨e, a₁, w₁, hq, harr⟩ := h b [.beginRound, .code body] (c :: cs) rfl hF' hr'
  rw [← hb0] at harr
  cases e with
  | normal =>
    obtain ⟨w₂, hbr, hbody⟩ := hq
    have s1 : StepsIn (Machine.fenced P (Fence.wide.inRound l)) P (lone (b.atR a₁ [.beginRound, .code body]) (c :: cs) w₁) (lone (b.atR a₁ [.code body]) (c :: cs) w₂) :=
      .one (fenced_calm (fr := b.atR a₁ [.beginRound, .code body]) hF' hr' rfl) (stepR_beginRound rfl hbr)
    obtain ⟨e₂, a₂, w₃, hq₂, harr₂⟩ := hbody b [] (c :: cs) rfl hF' hr'
    cases e₂ with
    | normal =>
      obtain ⟨v, w₄, hend, hR⟩ := hq₂
      exact ⟨.returned v, w₄, hR, (StepsIn.trans harr s1).trans (StepsIn.trans harr₂ (.one (fenced_calm (fr := b.atR a₂ []) hF' hr' rfl) (stepR_round_end rfl rfl hend)))⟩
    | ret =>
      obtain ⟨v, w₄, hend, hR⟩ := hq₂
      obtain ⟨k₁, hs⟩ := harr₂.2 rfl
      exact ⟨.returned v, w₄, hR, (StepsIn.trans harr s1).trans (StepsIn.trans hs (.one (fenced_calm (fr := b.atR a₂ (.code .ret :: k₁)) hF' hr' rfl) (stepR_round_ret rfl rfl hend)))⟩
    | exit id =>
      obtain ⟨v, w₄, hend, hR⟩ := hq₂
      obtain ⟨k₁, hk, hs⟩ := harr₂.2 rfl rfl
      exact ⟨.returned v, w₄, hR, (StepsIn.trans harr s1).trans (StepsIn.trans hs (.one (fenced_calm (fr := b.atR a₂ (.code (.exit id) :: k₁)) hF' hr' rfl) (stepR_round_exit rfl rfl hk hend)))⟩
    | goto t =>
      obtain ⟨v, w₄, hend, hR⟩ := hq₂
      obtain ⟨k₁, hk, hs⟩ := harr₂.2 rfl rfl
      exact ⟨.returned v, w₄, hR, (StepsIn.trans harr s1).trans (StepsIn.trans hs (.one (fenced_calm (fr := b.atR a₂ (.code (.goto t) :: k₁)) hF' hr' rfl) (stepR_round_goto rfl rfl hk hend)))⟩
    | panic chain =>
      obtain ⟨hd, hR⟩ := hq₂
      obtain ⟨todo, hs⟩ := harr₂
      have hl : ({ b.atR a₂ todo with mode := .panicking chain } : Frame).leaving P w₃ (.panicked chain) := ⟨rfl, hd, fn0, hf⟩
      exact ⟨.panicked chain, w₃, hR, (StepsIn.trans harr s1).trans (StepsIn.trans hs (.one (fenced_wide P _) (step_leave_panicked hl)))⟩
    | outgrown => exact hq₂.elim
  | exit id => exact hq.elim
  | goto t => exact hq.elim
  | ret => exact hq.elim
  | panic chain => exact hq.elim
  | outgrown => exact hq.elim
set_option maxRecDepth 8000 in
/-- the statement, in a frame of f -/
theorem wpAt_rangeFunc {f : FuncId} {g : Operand} {ps : Array Tmp} {assign body : Code} {Q : Exit → Act → World → Prop} {a : Act} {w : World} {l : Nat} {mark : List Deferred} {w₁ w₁' w₂ : World} {d : Deferred} {gf : FuncId} {args : Array Value}
    (he : (Instr.enterLoop f a.tmps ps assign body none).run P w = .ok (l, mark) w₁) (hres : (resolve a.eval (rangeCall g l) 0).run P w₁ = .ok d w₁') (hinv : (invoke d.target d.args).run P w₁' = .ok (.enter gf args) w₂)
    (hcall : CallsIn Fence.wide (n - 1) P gf args w₂ (rangePost Fence.wide n P l Q { a with defers := mark ++ a.defers })) : wpAt P f (.rangeFunc g ps assign body) Q a w := by
  intro b k cs hro hb
  rw [← hb, ← hro] at he
  have henter := stepR_rangeFunc (P := P) (b := b) (a := a) (k := k) (cs := cs) (w := w) he hres hinv
  obtain ⟨_, hc⟩ := hcall
  obtain ⟨e, w₃, fr, hR, hsteps, hfn, hleave⟩ := hc (b.atR { a with defers := mark ++ a.defers } (.inRangeFunc l :: k) :: cs) (room_any _)
  cases e with
  | outgrown =>
    obtain ⟨a₀, w₀, hq⟩ := hR
    exact ⟨.outgrown, a₀, w₀, hq, .inr (Outgrown.of_steps (.one henter) hsteps)⟩
  | returned v =>
    obtain ⟨jump, w₄, hend, hj⟩ := hR
    have sback : StepsIn (Machine.fenced P Fence.wide) P (lone (b.atR a (.code (.rangeFunc g ps assign body) :: k)) cs w) (lone (b.atR { a with defers := mark ++ a.defers } ((jump.map Item.code).toList ++ k)) cs w₄) := by
      refine .head (fenced_wide P _) henter (StepsIn.trans hsteps (.head (fenced_wide P _) ?_ (.one (fenced_wide P _) (stepR_endRangeFunc hend))))
      rw [← finish_atR_inRangeFunc l v]; exact step_leave_returned hleave
    cases jump with
    | none => exact ⟨.normal, _, w₄, hj, sback⟩
    | some c =>
      obtain ⟨e', a'', w₅, hq, harr⟩ := hj b k cs hro trivial (room_any _)
      exact ⟨e', a'', w₅, hq, .of_steps sback harr⟩
  | panicked chain =>
    refine ⟨.panic chain, _, w₃, hR, .inRangeFunc l :: k, .head (fenced_wide P _) henter (StepsIn.trans hsteps (.one (fenced_wide P _) ?_))⟩
    rw [← Frame.raise_atR]; exact step_leave_panicked hleave
end
section
variable {α : Type} {n : Nat} {P : Program}
/-- what the iterator promises: to invariants that abide whatever turns behind its call's start and is no cells, and that say what it leans on (R); what comes next hangs on what has come (T) -/
def SeqP (n : Nat) (P : Program) (g : Nat) (lb : Array Value) (encs : α → Array Value) (T : List α → α → Prop) (R : List α → World → Prop) (S : List α → Prop) : Prop :=
  ∀ (l : Nat) (J Jx : List α → World → Prop) (Jp : List PanicEntry → List α → World → Prop) (W : World), l < W.heap.size → OwnFrom W.heap.size J → OwnFrom W.heap.size Jx → (∀ pre V, J pre V → R pre V) →
    (∀ pre x V, J pre V → T pre x → YieldAt Fence.wide (n - 1) P l (encs x) V fun e V' => (e = .returned (.bool true) ∧ J (pre ++ [x]) V') ∨ (e = .returned (.bool false) ∧ Jx (pre ++ [x]) V') ∨ (∃ c, e = .panicked c ∧ Jp c (pre ++ [x]) V')) →
    J [] W → CallsIn Fence.wide n P g (#[.func (.yield l) #[] #[]] ++ lb) W fun e V => ((∃ v, e = .returned v) ∧ ((∃ xs, S xs ∧ J xs V) ∨ ∃ pre, Jx pre V)) ∨ ∃ c pre, e = .panicked c ∧ Jp c pre V
/-- how a round's body may be left -/
def leftP (B : Nat) (I : List α → World → Prop) (Ix : Code → List α → World → Prop) (Ip : List PanicEntry → List α → World → Prop) (xs : List α) (W : World) : Exit → Act → World → Prop
  | .normal, _, V => KeepsFrom B W V ∧ I xs V
  | .ret, _, V => KeepsFrom B W V ∧ Ix .ret xs V
  | .exit k, _, V => KeepsFrom B W V ∧ Ix (.exit k) xs V
  | .goto t, _, V => KeepsFrom B W V ∧ Ix (.goto t) xs V
  | .panic c, a, V => a.defers = [] ∧ KeepsFrom B W V ∧ Ip c xs V
  | .outgrown, _, _ => False
set_option maxRecDepth 8000 in
theorem rangeP {f : FuncId} {fn0 : Func} (hf : P.funcs[f]? = some fn0) {g : Operand} {ps : Array Tmp} {assign body : Code} {Q : Exit → Act → World → Prop} {a : Act} {w : World} {gf : Nat} {lb : Array Value} (hg : a.eval g = .func (.func gf) #[] lb) (eg : ∀ args w, (callFunc gf args).run P w = .ok (.enter gf args) w)
    {encs : α → Array Value} {T : List α → α → Prop} {R : List α → World → Prop} {S : List α → Prop} (hseq : SeqP (n - 1) P gf lb encs T R S) (hps : ∀ x, (encs x).size = ps.size)
    (I : List α → World → Prop) (Ix : Code → List α → World → Prop) (Ip : List PanicEntry → List α → World → Prop) (hI : OwnFrom w.heap.size I) (hIx : ∀ c, OwnFrom w.heap.size (Ix c)) (hIR : ∀ pre V, I pre V → R pre V) (h0 : I [] w) (Ax : α → Act → World → Prop) (hAx : ∀ x a', OwnFrom w.heap.size (fun (_ : Unit) W => Ax x a' W))
    (hassign : ∀ (l : Nat) (pre : List α) (x : α) (W : World) (K : Act → World → Prop), I pre W → T pre x → (∀ a' V, KeepsFrom w.heap.size W V → I pre V → Ax x a' V → K a' V) →
      assign.wpIn (Fence.wide.inRound l) (n - 1 - 1) P (Exit.then K (fun _ _ _ => False)) { tmps := (ps.zip (encs x)).foldl (fun t (p, v) => t.setIfInBounds p v) a.tmps, defers := [] } W)
    (hbody : ∀ (l : Nat) (pre : List α) (x : α) (a' : Act) (W : World), I pre W → Ax x a' W → T pre x → body.wpIn (Fence.wide.inRound l) (n - 1 - 1) P (leftP w.heap.size I Ix Ip (pre ++ [x]) W) a' W)
    (hdone : ∀ (D : Nat) (xs : List α) (W : World), w.heap.size ≤ D → S xs → I xs W → W.heap[D]? = some (.deferred (some [])) → Q .normal { a with defers := { target := .collected D, args := #[] } :: a.defers } W)
    (hstop : ∀ (D : Nat) (c : Code) (pre : List α) (W : World), w.heap.size ≤ D → Ix c pre W → W.heap[D]? = some (.deferred (some [])) → c.wpIn Fence.wide n P Q { a with defers := { target := .collected D, args := #[] } :: a.defers } W)
    (hpanic : ∀ (D : Nat) (c : List PanicEntry) (pre : List α) (W : World), w.heap.size ≤ D → Ip c pre W → W.heap[D]? = some (.deferred (some [])) → Q (.panic c) { a with defers := { target := .collected D, args := #[] } :: a.defers } W) :
    wpAt P f (.rangeFunc g ps assign body) Q a w := by
  -- the loop's record in each of its states
  obtain ⟨rc, hrc⟩ : ∃ rc : LoopState → Option Code → Loop, rc = fun s j => { state := s, pending := j, fn := f, tmps := a.tmps, params := ps, assign, body, defers := w.heap.size } := ⟨_, rfl⟩
  have hst : ∀ s j, (rc s j).state = s := fun s j => by rw [hrc]
  have hw1 : ∀ s j s' j', { rc s j with state := s', pending := j' } = rc s' j' := fun s j s' j' => by rw [hrc]
  have hw2 : ∀ s j s', { rc s j with state := s' } = rc s' j := fun s j s' => by rw [hrc]
  obtain ⟨D, hD⟩ : ∃ D, D = w.heap.size := ⟨_, rfl⟩
  obtain ⟨L, hL⟩ : ∃ L, L = w.heap.size + 1 := ⟨_, rfl⟩
  have hDL : D < L := by omega
  let Bk : Loop → World → Prop := fun r V => V.heap[L]? = some (.loop r) ∧ V.heap[D]? = some (.deferred (some []))
  obtain ⟨V0, hV0⟩ : ∃ V0, (w.alloc (.deferred (some []))).alloc (.loop (rc .ready none)) = V0 := ⟨_, rfl⟩
  have hsz : V0.heap.size = w.heap.size + 2 := by rw [← hV0]; simp
  have hbk0 : Bk (rc .ready none) V0 := by
    constructor
    · rw [← hV0, hL]
      have := World.alloc_heap_new (w.alloc (.deferred (some []))) (.loop (rc .ready none))
      rwa [World.size_alloc] at this
    · rw [← hV0, hD]
      exact (Below.heap_alloc _ _ _ (by simp)).trans (World.alloc_heap_new w _)
  have hkeep : ∀ (r : Loop) (X Y : World) (row : Option Nat), Bk r X → X.grownBy Y row → (∀ q, row = some q → V0.heap.size ≤ q) → Bk r Y := fun r X Y row hb hgr hq => by
    refine ⟨(hgr.block L (Array.getElem?_eq_some_iff.1 hb.1).1 (fun e => ?_)).trans hb.1, (hgr.block D (Array.getElem?_eq_some_iff.1 hb.2).1 (fun e => ?_)).trans hb.2⟩
    · have := hq L e.symm; omega
    · have := hq D e.symm; omega
  have hput : ∀ (r r' : Loop) (X : World), Bk r X → Bk r' (X.putObj L (.loop r')) := fun r r' X hb =>
    ⟨World.putObj_heap_same (Array.getElem?_eq_some_iff.1 hb.1).1, (World.putObj_heap_other (by omega)).trans hb.2⟩
  have hkf : ∀ (r : Loop) (X Y : World), Bk r X → KeepsFrom w.heap.size X Y → Bk r Y := fun r X Y hb hk => ⟨hk.same L _ (by omega) hb.1 rfl, hk.same D _ (by omega) hb.2 rfl⟩
  have hIV : I [] V0 := by rw [← hV0]; exact hI.alloc _ (hI.alloc _ h0)
  have henter : (Instr.enterLoop f a.tmps ps assign body none).run P w = .ok (w.heap.size + 1, [{ target := .collected w.heap.size, args := #[] }]) V0 := by
    rw [← hV0, hrc]
    exact run_enterLoop_outer _ _ _ _ _
  refine wpAt_rangeFunc (n := n) (w₁' := V0) (w₂ := V0) (d := { target := .fn (.func gf) lb, args := #[.func (.yield (w.heap.size + 1)) #[] #[]] }) (gf := gf) (args := #[.func (.yield (w.heap.size + 1)) #[] #[]] ++ lb) henter ?_ ?_ ?_
  · simp only [resolve, hg]
    simp [go_sem]
  · simp [invoke, go_sem, eg]
  rw [← hL]
  refine (hseq L (fun pre V => I pre V ∧ Bk (rc .ready none) V) (fun pre V => ∃ c, Ix c pre V ∧ Bk (rc .done (some c)) V) (fun c pre V => Ip c pre V ∧ V.heap[D]? = some (.deferred (some []))) V0 (by omega) ?_ ?_ (fun pre V h => hIR pre V h.1) ?_ ⟨hIV, hbk0⟩).mono ?_
  · exact fun s X Y row hs hgr hq => ⟨hI s X Y row hs.1 hgr (fun q e => ⟨by have := (hq q e).1; omega, (hq q e).2⟩), hkeep _ X Y row hs.2 hgr (fun q e => (hq q e).1)⟩
  · rintro s X Y row ⟨c, hc, hb⟩ hgr hq
    exact ⟨c, hIx c s X Y row hc hgr (fun q e => ⟨by have := (hq q e).1; omega, (hq q e).2⟩), hkeep _ X Y row hb hgr (fun q e => (hq q e).1)⟩
  · -- a round
    rintro pre x V ⟨hi, hb⟩ hT
    have hy := run_yield (P := P) (args := encs x) hb.1 (by rw [hrc]; exact hps x)
    rw [hrc] at hy
    refine ⟨f, _, assign, body, hy, round_of hf (hassign _ pre x V _ hi hT ?_)⟩
    clear hy
    intro a' V1 hk1 hi1 hx1
    have hb1 := hkf _ V V1 hb hk1
    have hbeg := run_beginRound (P := P) hb1.1 (hst _ _)
    rw [hw2] at hbeg
    refine ⟨_, hbeg, ?_⟩
    have hb2 := hput _ (rc .busy none) V1 hb1
    refine wpIn_mono (hbody _ pre x a' _ (hI.putObj _ hi1 (by omega) hb1.1 rfl) ((hAx x a').putObj (s := ()) _ hx1 (by omega) hb1.1 rfl) hT) ?_
    have fin : ∀ (j : Option Code) (V3 : World), KeepsFrom w.heap.size (V1.putObj L (.loop (rc .busy none))) V3 →
        (Instr.endRound L j).run P V3 = .ok (.bool j.isNone) (V3.putObj L (.loop (rc (if j.isNone then .ready else .done) j))) ∧ Bk (rc .busy none) V3 := fun j V3 hk3 => by
      have hb3 := hkf _ _ V3 hb2 hk3
      have he := run_endRound (P := P) j hb3.1
      rw [hw1] at he
      exact ⟨he, hb3⟩
    rintro e a3 V3 hp
    cases e with
    | normal =>
      obtain ⟨hk3, hi3⟩ := hp
      obtain ⟨hr, hb3⟩ := fin none V3 hk3
      exact ⟨_, _, hr, .inl ⟨rfl, hI.putObj _ hi3 (by omega) hb3.1 rfl, hput _ _ V3 hb3⟩⟩
    | ret =>
      obtain ⟨hk3, hi3⟩ := hp
      obtain ⟨hr, hb3⟩ := fin (some .ret) V3 hk3
      exact ⟨_, _, hr, .inr (.inl ⟨rfl, .ret, (hIx _).putObj _ hi3 (by omega) hb3.1 rfl, hput _ _ V3 hb3⟩)⟩
    | exit k =>
      obtain ⟨hk3, hi3⟩ := hp
      obtain ⟨hr, hb3⟩ := fin (some (.exit k)) V3 hk3
      exact ⟨_, _, hr, .inr (.inl ⟨rfl, .exit k, (hIx _).putObj _ hi3 (by omega) hb3.1 rfl, hput _ _ V3 hb3⟩)⟩
    | goto t =>
      obtain ⟨hk3, hi3⟩ := hp
      obtain ⟨hr, hb3⟩ := fin (some (.goto t)) V3 hk3
      exact ⟨_, _, hr, .inr (.inl ⟨rfl, .goto t, (hIx _).putObj _ hi3 (by omega) hb3.1 rfl, hput _ _ V3 hb3⟩)⟩
    | panic c =>
      obtain ⟨hd3, hk3, hi3⟩ := hp
      exact ⟨hd3, .inr (.inr ⟨c, rfl, hi3, (hkf _ _ V3 hb2 hk3).2⟩)⟩
    | outgrown => exact hp.elim
  · -- behind the iterator
    rintro e V2 (⟨⟨v, rfl⟩, (⟨xs, hS, hi, hb⟩ | ⟨pre, c, hi, hb⟩)⟩ | ⟨c, pre, rfl, hi, hb⟩)
    · have he := run_endLoop (P := P) hb.1 (by rw [hst]; simp)
      rw [hw2] at he
      have hpn : (rc .ready none).pending = none := by rw [hrc]
      rw [hpn] at he
      refine ⟨none, _, he, ?_⟩
      rw [← hD]
      exact hdone D xs _ (by omega) hS (hI.putObj _ hi (by omega) hb.1 rfl) (hput _ _ V2 hb).2
    · have he := run_endLoop (P := P) hb.1 (by rw [hst]; simp)
      rw [hw2] at he
      have hpn : (rc .done (some c)).pending = some c := by rw [hrc]
      rw [hpn] at he
      refine ⟨some c, _, he, ?_⟩
      rw [← hD]
      exact hstop D c pre _ (by omega) ((hIx c).putObj _ hi (by omega) hb.1 rfl) (hput _ _ V2 hb).2
    · show Q (.panic c) _ V2
      rw [← hD]
      exact hpanic D c pre V2 (by omega) hi hb
end
end Go.Proofs.YtaoailohihoclaaDoor

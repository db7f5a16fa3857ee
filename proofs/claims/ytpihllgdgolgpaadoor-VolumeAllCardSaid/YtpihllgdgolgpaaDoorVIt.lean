/- A range over an iterator that itself ranges over another, and hands on to the loop's body from within: the law, and the contract that it wants. -/
import Derived.RangeFuncNested
import Derived.RangeFuncBound
import Derived.RangeFuncCalls
import Derived.RangeFuncLeaves
import Derived.RangeFuncBox
import Derived.RangeFuncFrom
import Derived.WalkKit
namespace Go.Proofs.YtpihllgdgolgpaaDoor
open Go.RowKit
section
variable {α : Type} {F : Fence} {n : Nat} {P : Program}
/-- what the iterator promises to invariants that abide whatever turns behind its call's start and is no cells -/
def SeqO (F : Fence) (n : Nat) (P : Program) (g : Nat) (lb : Array Value) (encs : α → Array Value) (Kp : Nat → World → World → Prop) (S Sp : List α → Prop) (N : Nat) (W0 : World) : Prop :=
  ∀ (l : Nat) (J Jx : List α → World → Prop) (W : World), l < W.heap.size → Below W0.heap.size W0 W → OwnFrom W.heap.size J → OwnFrom W.heap.size Jx →
    (∀ pre x V, J pre V → pre.length < N → YieldAt F (n - 1) P l (encs x) V fun e V' => Kp l V V' ∧ ((e = .returned (.bool true) ∧ J (pre ++ [x]) V') ∨ (e = .returned (.bool false) ∧ Jx (pre ++ [x]) V'))) →
    J [] W → CallsIn F n P g (#[.func (.yield l) #[] #[]] ++ lb) W fun e V => (∃ v, e = .returned v) ∧ ((∃ xs, S xs ∧ J xs V) ∨ (∃ pre, Sp pre ∧ Jx pre V))
/-- how a round's body may be left -/
def leftO (B : Nat) (Kp : World → World → Prop) (I : List α → World → Prop) (Ix : Code → List α → World → Prop) (xs : List α) (W : World) : Exit → Act → World → Prop
  | .normal, _, V => KeepsFrom B W V ∧ Kp W V ∧ I xs V
  | .ret, _, V => KeepsFrom B W V ∧ Kp W V ∧ Ix .ret xs V
  | .exit k, _, V => KeepsFrom B W V ∧ Kp W V ∧ Ix (.exit k) xs V
  | .goto t, _, V => KeepsFrom B W V ∧ Kp W V ∧ Ix (.goto t) xs V
  | .panic _, _, _ => False
  | .outgrown, _, _ => False
set_option maxRecDepth 8000 in
theorem rangeO {g : Operand} {ps : Array Tmp} {assign body : Code} {Q : Exit → Act → World → Prop} {a : Act} {w : World}
    (hro : F.round = none) (h1 : 1 ≤ n) {gf : Nat} {lb : Array Value} (hg : a.eval g = .func (.func gf) #[] lb) (hFg : F.fn gf) (eg : ∀ args w, (callFunc gf args).run P w = .ok (.enter gf args) w)
    {encs : α → Array Value} {Kp : Nat → World → World → Prop} {S Sp : List α → Prop} {N : Nat} {w0 : World} (hseq : SeqO F (n - 1) P gf lb encs Kp S Sp N w0)
    (hKt : ∀ {l : Nat} {A B C : World}, Kp l A B → Kp l B C → Kp l A C) (hKb : ∀ (W : World) (r r' : Loop), W.heap[w.heap.size + 1]? = some (.loop r) → Kp (w.heap.size + 1) W (W.putObj (w.heap.size + 1) (.loop r'))) (hb0 : Below w0.heap.size w0 w) (hps : ∀ x, (encs x).size = ps.size)
    (I : List α → World → Prop) (Ix : Code → List α → World → Prop) (hI : OwnFrom w.heap.size I) (hIx : ∀ c, OwnFrom w.heap.size (Ix c)) (h0 : I [] w) (Ax : α → Act → World → Prop) (hAx : ∀ x a', OwnFrom w.heap.size (fun (_ : Unit) W => Ax x a' W))
    (hassign : ∀ (l : Nat) (pre : List α) (x : α) (W : World) (K : Act → World → Prop), I pre W → (∀ a' V, KeepsFrom w.heap.size W V → Kp (w.heap.size + 1) W V → I pre V → Ax x a' V → K a' V) →
      assign.wpIn (F.inRound l) (n - 1 - 1) P (Exit.then K (fun _ _ _ => False)) { tmps := (ps.zip (encs x)).foldl (fun t (p, v) => t.setIfInBounds p v) a.tmps, defers := [] } W)
    (hbody : ∀ (l : Nat) (pre : List α) (x : α) (a' : Act) (W : World), I pre W → Ax x a' W → pre.length < N → body.wpIn (F.inRound l) (n - 1 - 1) P (leftO w.heap.size (Kp (w.heap.size + 1)) I Ix (pre ++ [x]) W) a' W)
    (hdone : ∀ (D : Nat) (xs : List α) (W : World), w.heap.size ≤ D → S xs → I xs W → W.heap[D]? = some (.deferred (some [])) → Q .normal { a with defers := { target := .collected D, args := #[] } :: a.defers } W)
    (hstop : ∀ (D : Nat) (c : Code) (pre : List α) (W : World), w.heap.size ≤ D → Sp pre → Ix c pre W → W.heap[D]? = some (.deferred (some [])) → c.wpIn F n P Q { a with defers := { target := .collected D, args := #[] } :: a.defers } W) :
    (Code.rangeFunc g ps assign body).wpIn F n P Q a w := by
  obtain ⟨Kq, hKq⟩ : ∃ Kq, Kp (w.heap.size + 1) = Kq := ⟨_, rfl⟩
  have hKtq : ∀ {A B C : World}, Kq A B → Kq B C → Kq A C := by rw [← hKq]; exact hKt
  rw [hKq] at hKb hassign hbody
  refine wpIn_rangeFunc fun fn hfn => ?_
  rw [hro]
  -- the loop's record in each of its states
  obtain ⟨rc, hrc⟩ : ∃ rc : LoopState → Option Code → Loop, rc = fun s j => { state := s, pending := j, fn, tmps := a.tmps, params := ps, assign, body, defers := w.heap.size } := ⟨_, rfl⟩
  have hst : ∀ s j, (rc s j).state = s := fun s j => by rw [hrc]
  have hw1 : ∀ s j s' j', { rc s j with state := s', pending := j' } = rc s' j' := fun s j s' j' => by rw [hrc]
  have hw2 : ∀ s j s', { rc s j with state := s' } = rc s' j := fun s j s' => by rw [hrc]
  -- its block, and the one of what is deferred
  obtain ⟨D, hD⟩ : ∃ D, D = w.heap.size := ⟨_, rfl⟩
  obtain ⟨L, hL⟩ : ∃ L, L = w.heap.size + 1 := ⟨_, rfl⟩
  have hDL : D < L := by omega
  let Bk : Loop → World → Prop := fun r V => V.heap[L]? = some (.loop r) ∧ V.heap[D]? = some (.deferred (some []))
  obtain ⟨V0, hV0⟩ : ∃ V0, (w.alloc (.deferred (some []))).alloc (.loop (rc .ready none)) = V0 := ⟨_, rfl⟩
  have hsz : V0.heap.size = w.heap.size + 2 := by rw [← hV0]; simp
  have hbk0 : Bk (rc .ready none) V0 := by
    constructor
    · rw [← hV0, hL]
      have := World.alloc_heap_new (w.alloc (.deferred (some []))) (.loop (rc .ready none))
      rwa [World.size_alloc] at this
    · rw [← hV0, hD]
      exact (Below.heap_alloc _ _ _ (by simp)).trans (World.alloc_heap_new w _)
  have hkeep : ∀ (r : Loop) (X Y : World) (row : Option Nat), Bk r X → X.grownBy Y row → (∀ q, row = some q → V0.heap.size ≤ q) → Bk r Y := fun r X Y row hb hgr hq => by
    refine ⟨(hgr.block L (Array.getElem?_eq_some_iff.1 hb.1).1 (fun e => ?_)).trans hb.1, (hgr.block D (Array.getElem?_eq_some_iff.1 hb.2).1 (fun e => ?_)).trans hb.2⟩
    · have := hq L e.symm; omega
    · have := hq D e.symm; omega
  have hput : ∀ (r r' : Loop) (X : World), Bk r X → Bk r' (X.putObj L (.loop r')) := fun r r' X hb =>
    ⟨World.putObj_heap_same (Array.getElem?_eq_some_iff.1 hb.1).1, (World.putObj_heap_other (by omega)).trans hb.2⟩
  have hkf : ∀ (r : Loop) (X Y : World), Bk r X → KeepsFrom w.heap.size X Y → Bk r Y := fun r X Y hb hk => ⟨hk.same L _ (by omega) hb.1 rfl, hk.same D _ (by omega) hb.2 rfl⟩
  refine ⟨w.heap.size + 1, [{ target := .collected w.heap.size, args := #[] }], V0, { target := .fn (.func gf) lb, args := #[.func (.yield (w.heap.size + 1)) #[] #[]] }, V0, gf, #[.func (.yield (w.heap.size + 1)) #[] #[]] ++ lb, V0, ?_, ?_, ?_, ?_, fun _ => h1, ?_⟩
  · rw [← hV0, hrc]
    exact run_enterLoop_outer _ _ _ _ _
  · simp only [resolve, hg]
    simp [go_sem]
  · intro f' hf'
    simp [Target.leads] at hf'
    subst hf'
    exact hFg
  · simp [invoke, go_sem, eg]
  rw [← hL]
  have hIV : I [] V0 := by rw [← hV0]; exact hI.alloc _ (hI.alloc _ h0)
  have hbV : Below w0.heap.size w0 V0 := by
    rw [← hV0]
    exact hb0.trans ((((Below.refl _ w).alloc (Nat.le_refl _) _).alloc (by simp) _).mono hb0.size)
  refine (hseq L (fun pre V => I pre V ∧ Bk (rc .ready none) V) (fun pre V => ∃ c, Ix c pre V ∧ Bk (rc .done (some c)) V) V0 (by omega) hbV ?_ ?_ ?_ ⟨hIV, hbk0⟩).mono ?_
  · exact fun s X Y row hs hgr hq => ⟨hI s X Y row hs.1 hgr (fun q e => ⟨by have := (hq q e).1; omega, (hq q e).2⟩), hkeep _ X Y row hs.2 hgr (fun q e => (hq q e).1)⟩
  · rintro s X Y row ⟨c, hc, hb⟩ hgr hq
    exact ⟨c, hIx c s X Y row hc hgr (fun q e => ⟨by have := (hq q e).1; omega, (hq q e).2⟩), hkeep _ X Y row hb hgr (fun q e => (hq q e).1)⟩
  · -- a round
    rw [show Kp L = Kq by rw [hL, hKq]]
    rintro pre x V ⟨hi, hb⟩ hlen
    have hy := run_yield (P := P) (args := encs x) hb.1 (by rw [hrc]; exact hps x)
    rw [hrc] at hy
    refine ⟨fn, _, assign, body, hy, roundIn_of_wpIn hfn (hassign _ pre x V _ hi ?_)⟩
    clear hy
    intro a' V1 hk1 hp1 hi1 hx1
    have hb1 := hkf _ V V1 hb hk1
    have hbeg := run_beginRound (P := P) hb1.1 (hst _ _)
    rw [hw2] at hbeg
    refine ⟨_, hbeg, ?_⟩
    have hb2 := hput _ (rc .busy none) V1 hb1
    have hp2 : Kq V1 (V1.putObj L (.loop (rc .busy none))) := by
      have := hKb V1 (rc .ready none) (rc .busy none) (by rw [← hL]; exact hb1.1)
      rwa [← hL] at this
    refine wpIn_mono (hbody _ pre x a' _ (hI.putObj _ hi1 (by omega) hb1.1 rfl) ((hAx x a').putObj (s := ()) _ hx1 (by omega) hb1.1 rfl) hlen) ?_
    have fin : ∀ (j : Option Code) (V3 : World), KeepsFrom w.heap.size (V1.putObj L (.loop (rc .busy none))) V3 → Kq (V1.putObj L (.loop (rc .busy none))) V3 →
        (Instr.endRound L j).run P V3 = .ok (.bool j.isNone) (V3.putObj L (.loop (rc (if j.isNone then .ready else .done) j))) ∧ Bk (rc .busy none) V3 ∧ Kq V (V3.putObj L (.loop (rc (if j.isNone then .ready else .done) j))) := fun j V3 hk3 hp3 => by
      have hb3 := hkf _ _ V3 hb2 hk3
      have he := run_endRound (P := P) j hb3.1
      rw [hw1] at he
      refine ⟨he, hb3, hKtq hp1 (hKtq (hKtq hp2 hp3) ?_)⟩
      have := hKb V3 (rc .busy none) (rc (if j.isNone then .ready else .done) j) (by rw [← hL]; exact hb3.1)
      rwa [← hL] at this
    rintro e a3 V3 hp
    cases e with
    | normal =>
      obtain ⟨hk3, hp3, hi3⟩ := hp
      obtain ⟨hr, hb3, hkp⟩ := fin none V3 hk3 hp3
      exact ⟨_, _, hr, hkp, .inl ⟨rfl, hI.putObj _ hi3 (by omega) hb3.1 rfl, hput _ _ V3 hb3⟩⟩
    | ret =>
      obtain ⟨hk3, hp3, hi3⟩ := hp
      obtain ⟨hr, hb3, hkp⟩ := fin (some .ret) V3 hk3 hp3
      exact ⟨_, _, hr, hkp, .inr ⟨rfl, .ret, (hIx _).putObj _ hi3 (by omega) hb3.1 rfl, hput _ _ V3 hb3⟩⟩
    | exit k =>
      obtain ⟨hk3, hp3, hi3⟩ := hp
      obtain ⟨hr, hb3, hkp⟩ := fin (some (.exit k)) V3 hk3 hp3
      exact ⟨_, _, hr, hkp, .inr ⟨rfl, .exit k, (hIx _).putObj _ hi3 (by omega) hb3.1 rfl, hput _ _ V3 hb3⟩⟩
    | goto t =>
      obtain ⟨hk3, hp3, hi3⟩ := hp
      obtain ⟨hr, hb3, hkp⟩ := fin (some (.goto t)) V3 hk3 hp3
      exact ⟨_, _, hr, hkp, .inr ⟨rfl, .goto t, (hIx _).putObj _ hi3 (by omega) hb3.1 rfl, hput _ _ V3 hb3⟩⟩
    | panic _ => exact hp.elim
    | outgrown => exact hp.elim
  · -- behind the iterator
    rintro e V2 ⟨⟨v, rfl⟩, (⟨xs, hS, hi, hb⟩ | ⟨pre, hSp, c, hi, hb⟩)⟩
    · have he := run_endLoop (P := P) hb.1 (by rw [hst]; simp)
      rw [hw2] at he
      have hpn : (rc .ready none).pending = none := by rw [hrc]
      rw [hpn] at he
      refine ⟨none, _, he, ?_⟩
      rw [← hD]
      exact hdone D xs _ (by omega) hS (hI.putObj _ hi (by omega) hb.1 rfl) (hput _ _ V2 hb).2
    · have he := run_endLoop (P := P) hb.1 (by rw [hst]; simp)
      rw [hw2] at he
      have hpn : (rc .done (some c)).pending = some c := by rw [hrc]
      rw [hpn] at he
      refine ⟨some c, _, he, ?_⟩
      rw [← hD]
      exact hstop D c pre _ (by omega) hSp ((hIx c).putObj _ hi (by omega) hb.1 rfl) (hput _ _ V2 hb).2
end
end Go.Proofs.YtpihllgdgolgpaaDoor

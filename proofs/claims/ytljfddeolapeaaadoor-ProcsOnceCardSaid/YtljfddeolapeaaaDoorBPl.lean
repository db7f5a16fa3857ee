/- banks: which node is a bank, what is made, retired, destroyed: plain. -/
import Derived.Test.YtljfddeolapeaaaDoorBDef
import Derived.Test.YtljfddeolapeaaaDoorR17
namespace Go.Proofs.YtljfddeolapeaaaDoor
open Go.RowKit
def sl0 (u : Oj) : Ky := (u.s[0]?).getD zk
def sl1 (u : Oj) : Ky := (u.s[1]?).getD zk
/-- a node whose slots say Oids of a store of so many -/
def BkP (n : Nat) (u : Oj) : Prop := (sl0 u).k = 1 ∧ (sl1 u).k = 1 ∧ 0 ≤ (sl0 u).v ∧ (sl0 u).v ≤ (sl1 u).v ∧ (sl1 u).v < (n : Int)
instance (n : Nat) (u : Oj) : Decidable (BkP n u) := by unfold BkP; infer_instance
/-- it is the key of a bank's node that counts -/
def bnkN (os : List Oj) (x : Ky) : Prop := (named os x).isSome = true ∧ x.k = 4
/-- a bank that is asked: its Oids are a to b -/
structure BkD (os : List Oj) (x : Ky) (j : Nat) (u : Oj) (a b : Nat) : Prop where
  nm : named os x = some u
  k : x.k = 4
  ok : x.ok
  o : x.o = (j : Int)
  lt : j < os.length
  at_ : os[j] = u
  uk : u.k = 1
  k0 : (sl0 u).k = 1
  k1 : (sl1 u).k = 1
  v0 : (sl0 u).v = (a : Int)
  v1 : (sl1 u).v = (b : Int)
  ab : a ≤ b
  bl : b < os.length
theorem BkD.is {os : List Oj} {x : Ky} {j : Nat} {u : Oj} {a b : Nat} (d : BkD os x j u a b) : bnkN os x := ⟨by rw [d.nm]; rfl, d.k⟩
/-- free, and to be had -/
def good (o : Oj) : Prop := o.k = 0 ∧ o.c < 4294967295
instance (o : Oj) : Decidable (good o) := by unfold good; infer_instance
set_option maxRecDepth 8000 in
theorem oKC_ok {n k c : Int} (hn : 1 ≤ n ∧ n ≤ 64) (hk : k = 0 ∨ k = 1 ∨ k = 2 ∨ k = 3) (hc : 0 ≤ c ∧ c ≤ 4294967295) : (oKC k c).ok n := by
  refine ⟨hn, hc, ⟨(by decide : (0 : Int) ≤ 0), (by decide : (0 : Int) ≤ 4294967295)⟩, ?_⟩
  rcases hk with rfl | rfl | rfl | rfl
  · exact .inr (.inr ⟨.inl rfl, rfl, rfl, rfl⟩)
  · exact .inl ⟨rfl, zks_may n⟩
  · exact .inr (.inl ⟨rfl, rfl, rfl⟩)
  · exact .inr (.inr ⟨.inr rfl, rfl, rfl, rfl⟩)
end Go.Proofs.YtljfddeolapeaaaDoor

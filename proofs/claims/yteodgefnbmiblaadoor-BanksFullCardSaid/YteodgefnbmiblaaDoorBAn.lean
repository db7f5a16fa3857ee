/- banks: what each call answers, of any store: plain. -/
import Derived.Test.YteodgefnbmiblaaDoorBExp
import Derived.Test.YteodgefnbmiblaaDoorBMk
namespace Go.Proofs.YteodgefnbmiblaaDoor
open Go.RowKit
open Classical in
/-- what asking tells -/
noncomputable def bnkE (os : List Oj) (x : Ky) : Int := if bnkN os x then (if BkP os.length ((named os x).getD oz) then 0 else 220) else 190
noncomputable def bnkA (os : List Oj) (x : Ky) : Nat := (sl0 ((named os x).getD oz)).v.toNat
noncomputable def bnkB (os : List Oj) (x : Ky) : Nat := (sl1 ((named os x).getD oz)).v.toNat
set_option maxRecDepth 8000 in
theorem bnkE_d {os : List Oj} {x : Ky} (h : bnkE os x = 0) : ∃ j u a b, BkD os x j u a b := by
  unfold bnkE at h
  split at h
  · next h1 =>
    split at h
    · next h2 =>
      obtain ⟨j, u, d, hk, hu⟩ := bnkN_d h1
      rw [d.nm] at h2
      obtain ⟨a, b, e⟩ := bk_d d hk hu h2
      exact ⟨j, u, a, b, e⟩
    · cases h
  · cases h
set_option maxRecDepth 8000 in
theorem BkD.e {os : List Oj} {x : Ky} {j : Nat} {u : Oj} {a b : Nat} (d : BkD os x j u a b) : bnkE os x = 0 := by
  unfold bnkE
  rw [if_pos d.is, if_pos (by rw [d.nm]; exact d.p)]
set_option maxRecDepth 8000 in
theorem BkD.fa {os : List Oj} {x : Ky} {j : Nat} {u : Oj} {a b : Nat} (d : BkD os x j u a b) : bnkA os x = a := by
  unfold bnkA
  rw [d.nm]
  have := d.v0
  show (sl0 u).v.toNat = a
  omega
set_option maxRecDepth 8000 in
theorem BkD.fb {os : List Oj} {x : Ky} {j : Nat} {u : Oj} {a b : Nat} (d : BkD os x j u a b) : bnkB os x = b := by
  unfold bnkB
  rw [d.nm]
  have := d.v1
  show (sl1 u).v.toNat = b
  omega
/-- what Make tells, and leaves -/
noncomputable def mkA (os : List Oj) (x : Ky) (kind : Int) : List Oj × Ky × Int :=
  if bnkE os x = 0 then
    (if kind = 1 ∨ kind = 2 then
      (match fnd os (bnkA os x) (bnkB os x + 1 - bnkA os x) with
        | some j => (mkL os (bnkA os x) (bnkB os x) kind, mkK os (bnkA os x + j) (kind + 1), 0)
        | none => (mkL os (bnkA os x) (bnkB os x) kind, zk, 221))
    else (os, zk, 2))
  else (os, zk, bnkE os x)
theorem mkA_e {os : List Oj} {x : Ky} (kind : Int) (h : bnkE os x ≠ 0) : mkA os x kind = (os, zk, bnkE os x) := if_neg h
set_option maxRecDepth 8000 in
theorem mkA_arg {os : List Oj} {x : Ky} {kind : Int} (h : bnkE os x = 0) (hk : ¬ (kind = 1 ∨ kind = 2)) : mkA os x kind = (os, zk, 2) := by
  unfold mkA
  rw [if_pos h, if_neg hk]
set_option maxRecDepth 8000 in
theorem mkA_some {os : List Oj} {x : Ky} {j : Nat} {u : Oj} {a b : Nat} (d : BkD os x j u a b) {kind : Int} (hk : kind = 1 ∨ kind = 2) {i : Nat} (h : fnd os a (b + 1 - a) = some i) : mkA os x kind = (mkL os a b kind, mkK os (a + i) (kind + 1), 0) := by
  unfold mkA
  rw [if_pos d.e, if_pos hk, d.fa, d.fb, h]
set_option maxRecDepth 8000 in
theorem mkA_none {os : List Oj} {x : Ky} {j : Nat} {u : Oj} {a b : Nat} (d : BkD os x j u a b) {kind : Int} (hk : kind = 1 ∨ kind = 2) (h : fnd os a (b + 1 - a) = none) : mkA os x kind = (mkL os a b kind, zk, 221) := by
  unfold mkA
  rw [if_pos d.e, if_pos hk, d.fa, d.fb, h]
set_option maxRecDepth 8000 in
theorem mkA_len (os : List Oj) (x : Ky) (kind : Int) : (mkA os x kind).1.length = os.length := by
  unfold mkA
  split
  · split
    · split
      · exact mkL_len _ _ _ _
      · exact mkL_len _ _ _ _
    · rfl
  · rfl
section
variable {w : World} {base p : Nat} {A : Option Addr} {cap : Nat} {ps : List Nat} {os : List Oj}
set_option maxRecDepth 8000 in
theorem bask_e (h : StAt w base p A cap ps os) (hn : 0 < os.length) (hT : Tab w) (x : Ky) (hE : bnkE os x ≠ 0) : Calls Tryd.prog 52 #[pv p, x.val] w fun e w' => e = .panicked (erc (bnkE os x)) ∧ Below w.heap.size w w' := by
  unfold bnkE at hE ⊢
  by_cases h1 : bnkN os x
  · rw [if_pos h1] at hE ⊢
    obtain ⟨j, u, d, hk, hu⟩ := bnkN_d h1
    by_cases h2 : BkP os.length ((named os x).getD oz)
    · rw [if_pos h2] at hE
      exact absurd rfl hE
    · rw [if_neg h2]
      rw [d.nm] at h2
      exact bask_bank h hn hT x u d.nm hk h2
  · rw [if_neg h1]
    exact bask_no h hn hT x h1
theorem bask_d (h : StAt w base p A cap ps os) (hn : 0 < os.length) (hT : Tab w) {x : Ky} {j : Nat} {u : Oj} {a b : Nat} (d : BkD os x j u a b) : Calls Tryd.prog 52 #[pv p, x.val] w fun e w' => e = .returned (bkv p x.o u) ∧ Below w.heap.size w w' := bask_yes h hn hT x u d.nm d.k d.p
set_option maxRecDepth 8000 in
theorem made_some (h : StAt w base p A cap ps os) (ho : okAll os.length os) (hT : TabB base w) {x : Ky} {j : Nat} {u : Oj} {a b : Nat} (d : BkD os x j u a b) (hN : os.length ≤ 64) (kind : Int) (hk : kind = 1 ∨ kind = 2) {i : Nat} (hf : fnd os a (b + 1 - a) = some i) :
    Calls Tryd.prog 27 #[bkv p x.o u, .int .i64 kind] w fun e w' => e = .returned (mkK os (a + i) (kind + 1)).val ∧ StAt w' base p A cap ps (mkL os a b kind) ∧ Fr (fun k => k ∈ ps) w w' := by
  have := made_all h ho hT x.o u a b d.v0 d.v1 d.ab d.bl hN kind (kind + 1) hk (fun W => by rcases hk with rfl | rfl; exact kind_node W; exact kind_page W)
  refine this.mono ?_
  rintro e w' ⟨h1, h2, h3⟩
  unfold MkE at h1
  rw [hf] at h1
  exact ⟨h1, h2, h3⟩
set_option maxRecDepth 8000 in
theorem made_none (h : StAt w base p A cap ps os) (ho : okAll os.length os) (hT : TabB base w) {x : Ky} {j : Nat} {u : Oj} {a b : Nat} (d : BkD os x j u a b) (hN : os.length ≤ 64) (kind : Int) (hk : kind = 1 ∨ kind = 2) (hf : fnd os a (b + 1 - a) = none) :
    Calls Tryd.prog 27 #[bkv p x.o u, .int .i64 kind] w fun e w' => e = .panicked (erc 221) ∧ StAt w' base p A cap ps (mkL os a b kind) ∧ Fr (fun k => k ∈ ps) w w' := by
  have := made_all h ho hT x.o u a b d.v0 d.v1 d.ab d.bl hN kind (kind + 1) hk (fun W => by rcases hk with rfl | rfl; exact kind_node W; exact kind_page W)
  refine this.mono ?_
  rintro e w' ⟨h1, h2, h3⟩
  unfold MkE at h1
  rw [hf] at h1
  exact ⟨h1, h2, h3⟩
end
end Go.Proofs.YteodgefnbmiblaaDoor

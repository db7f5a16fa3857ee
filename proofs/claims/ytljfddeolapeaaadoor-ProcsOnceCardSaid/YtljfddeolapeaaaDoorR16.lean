/- nodes: what is put, cleared, cloned, ahead of its face. -/
import Derived.Test.YtljfddeolapeaaaDoorR15
namespace Go.Proofs.YtljfddeolapeaaaDoor
open Go.RowKit
section
variable {w : World} {base p : Nat} {A : Option Addr} {cap : Nat} {ps : List Nat} {os : List Oj} {kt it pt vt lt : TypeId} {S K I V L : Nat}
end
end Go.Proofs.YtljfddeolapeaaaDoor
namespace Go.Proofs.YtljfddeolapeaaaDoor
open Go.RowKit
set_option maxRecDepth 8000 in
theorem load_err {w : World} {g : Nat} {t : TypeId} (n : Int) (h : Blk w g t #[.int .i64 n]) : (loadVar 46 ⟨g, 0, none⟩).run Tryd.prog w = .ok (.int .i64 n) w := by
  have hc : w.cell? ⟨g, 0, none⟩ = some (.int .i64 n) := by simpa using h.cell 0
  simp [go_sem, hc]
theorem set_same {w : World} {g : Nat} {t : TypeId} {v : Value} (h : Blk w g t #[v]) (u : Value) : Blk (w.setCell ⟨g, 0, none⟩ u) g t #[u] := h.set_ 0 u
section
variable {w : World}
end
end Go.Proofs.YtljfddeolapeaaaDoor
namespace Go.Proofs.YtljfddeolapeaaaDoor
open Go.RowKit
section
variable {w : World} {base p : Nat} {A : Option Addr} {cap : Nat} {ps : List Nat} {os : List Oj}
end
end Go.Proofs.YtljfddeolapeaaaDoor
namespace Go.Proofs.YtljfddeolapeaaaDoor
open Go.RowKit
/-- it is the key of a node that counts -/
def askN (os : List Oj) (x : Ky) : Prop := (named os x).isSome = true ∧ x.k = 2
structure AskD (os : List Oj) (x : Ky) (j : Nat) (u : Oj) : Prop where
  nm : named os x = some u
  k : x.k = 2
  ok : x.ok
  o : x.o = (j : Int)
  lt : j < os.length
  at_ : os[j] = u
  uk : u.k = 1
set_option maxRecDepth 8000 in
theorem askN_d {os : List Oj} {x : Ky} (h : askN os x) : ∃ j u, AskD os x j u := by
  obtain ⟨h1, h2⟩ := h
  have hof := named_of h1
  have hok := hof.1
  have h3 := named_is (os := os) hof
  obtain ⟨u, hu⟩ := Option.isSome_iff_exists.1 h1
  rw [hu] at h3
  have h4 := Option.filter_eq_some_iff.1 h3.symm
  obtain ⟨h5, h6⟩ := h4
  obtain ⟨hlt, hat⟩ := List.getElem?_eq_some_iff.1 h5
  have ho : 0 ≤ x.o := by
    obtain ⟨n, hk, hn, o0, _⟩ := hok
    exact o0
  refine ⟨x.o.toNat, u, hu, h2, hok, by omega, hlt, hat, ?_⟩
  have h7 : x.ok ∧ (x.of → x.want = u.k ∧ x.c = u.c ∧ (x.k ≠ 7 ∨ x.l = u.l)) := by
    have : x.cnt u.k u.c u.l = true := h6
    unfold Ky.cnt at this
    simpa using this
  have h8 := (h7.2 hof).1
  unfold Ky.want at h8
  rw [if_pos hof, if_neg (by omega)] at h8
  exact h8.symm
theorem AskD.is {os : List Oj} {x : Ky} {j : Nat} {u : Oj} (h : AskD os x j u) : askN os x := ⟨by rw [h.nm]; rfl, h.k⟩
set_option maxRecDepth 8000 in
theorem AskD.eq {os : List Oj} {x : Ky} {j : Nat} {u : Oj} (h : AskD os x j u) : (named os x).getD oz = u := by rw [h.nm]; rfl
set_option maxRecDepth 8000 in
theorem AskD.jn {os : List Oj} {x : Ky} {j : Nat} {u : Oj} (h : AskD os x j u) : x.o.toNat = j := by have := h.o; omega
set_option maxRecDepth 8000 in
-- what is put may be there
theorem prepd_may (os : List Oj) (v : Ky) : (prepd os v).may os.length := by
  unfold prepd
  by_cases h : ((named os v).isSome || v.cn oz) = true
  · rw [if_pos h]
    by_cases h1 : (named os v).isSome = true
    · have hof := named_of h1
      refine ⟨hof.1, fun _ => ?_⟩
      have h3 := named_is (os := os) hof
      obtain ⟨u, hu⟩ := Option.isSome_iff_exists.1 h1
      rw [hu] at h3
      obtain ⟨hlt, _⟩ := List.getElem?_eq_some_iff.1 (Option.filter_eq_some_iff.1 h3.symm).1
      have ho : 0 ≤ v.o := by
        obtain ⟨n, hk, hn, o0, _⟩ := hof.1
        exact o0
      omega
    · have h2 : v.cn oz = true := by
        rcases Bool.or_eq_true_iff.1 h with h' | h'
        · exact absurd h' h1
        · exact h'
      obtain ⟨h3, h4⟩ := cn_oz.1 h2
      exact ⟨h3, fun hf => absurd hf h4⟩
  · rw [if_neg h]
    exact zk_may _
theorem zks_may (n : Int) : mayS n zks := fun y hy => by
  rw [List.eq_of_mem_replicate (show y ∈ List.replicate 16 zk from hy)]
  exact zk_may n
set_option maxRecDepth 8000 in
theorem node_may {n : Int} {u : Oj} (h : u.ok n) (hk : u.k = 1) : mayS n u.s := by
  rcases h.2.2.2 with h1 | h1 | h1
  · exact h1.2
  · have := h1.1; omega
  · have := h1.1; omega
theorem slotsAs_ok {n : Int} {u : Oj} (h : u.ok n) (hk : u.k = 1) (s : List Ky) (hs : s.length = 16) (hm : mayS n s) : (slotsAs u s hs).ok n := ⟨h.1, h.2.1, h.2.2.1, .inl ⟨hk, hm⟩⟩
theorem set_may {n : Int} {s : List Ky} (h : mayS n s) (i : Nat) {v : Ky} (hv : v.may n) : mayS n (s.set i v) := fun y hy => by
  rcases List.mem_or_eq_of_mem_set hy with h' | rfl
  · exact h y h'
  · exact hv
theorem okAll_set {n : Int} {os : List Oj} (h : okAll n os) (j : Nat) {o : Oj} (ho : o.ok n) : okAll n (os.set j o) := fun y hy => by
  rcases List.mem_or_eq_of_mem_set hy with h' | rfl
  · exact h y h'
  · exact ho
theorem AskD.okU {os : List Oj} {x : Ky} {j : Nat} {u : Oj} (h : AskD os x j u) (ho : okAll os.length os) : u.ok os.length := ho u (h.at_ ▸ List.getElem_mem h.lt)
theorem put_oku {os : List Oj} {x : Ky} {j : Nat} {u : Oj} (h : AskD os x j u) (ho : okAll os.length os) (i : Nat) (v : Ky) : (slotAs u i (prepd os v)).ok os.length := slotsAs_ok (h.okU ho) h.uk (u.s.set i (prepd os v)) (by rw [List.length_set]; exact u.hs) (set_may (node_may (h.okU ho) h.uk) i (prepd_may os v))
-- the answers
open Classical in
noncomputable def getA (os : List Oj) (x : Ky) (i : Int) : Ky × Int := if askN os x then (if 0 ≤ i ∧ i < 16 then (gotK os x ((((named os x).getD oz).s[i.toNat]?).getD zk), 0) else (zk, 4)) else (zk, 190)
open Classical in
noncomputable def putA (os : List Oj) (x : Ky) (i : Int) (v : Ky) : List Oj × Ky × Int :=
  if askN os x then (if x.r % 4 = 0 then (if 0 ≤ i ∧ i < 16 then (if v.may os.length then (os.set x.o.toNat (slotAs ((named os x).getD oz) i.toNat (prepd os v)), gotK os x ((((named os x).getD oz).s[i.toNat]?).getD zk), 0) else (os, zk, 2)) else (os, zk, 4)) else (os, zk, 191)) else (os, zk, 190)
end Go.Proofs.YtljfddeolapeaaaDoor

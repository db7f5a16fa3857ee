/- law 8: small words: a store into the newest row, the two disks side by side. -/
import Derived.Test.YtcfkoglehjkkdaaHOpen
namespace Go.Proofs.Ytcfkoglehjkkdaa
open Go.RowKit
attribute [local go_sem] Oper.semAt_some
set_option maxRecDepth 8000 in
theorem wpList_store_g8 {ops : Array Oper} {rest : List Oper} {o : Oper} {a : Act} {w : World} {Q : Exit → Act → World → Prop} (hgd : o.guard = none) (ty : TypeId) (x y : Operand) (ho : o.op = .store ty x y) {g : Nat} (hx : a.eval x = .pointer (some ⟨g, 0, none⟩))
    (cells old : Array Value) (t : TypeId) (hy : a.eval y = .agg cells) (hb : Blk w g t old) (hi : (Try.prog.info? ty).map (·.size) = some cells.size) (hold : old.size = cells.size) (h1 : cells.all (·.oneCell') = true)
    (h : ∀ w', Blk w' g t cells → Fr (fun k => k = g) w w' → wpList Try.prog ops Q rest (a.put o.dst undef) w') : wpList Try.prog ops Q (o :: rest) a w := by
  refine wpList_store_row hgd ty x y ho g cells hx hy t old hb hi hold h1 ?_
  exact h _ (setRow_heap w g _ _ t (0, 0) hb) (setRow_fr8 w g cells)
theorem str_run8 {w : World} {A : Option Addr} {n c : Nat} {l : List UInt8} (hn : l.length = n) (hr : Rd w A l) : (convert 22 9 (.slice A n c)).run Try.prog w = .ok (.string (st l)) w :=
  run_str w Try.underlying22 Try.underlying5 Try.underlying9 hn hr
theorem Bo.mk8 {W0 W W' : World} {B p : Nat} {pl pl' : Pl} {D D' : Dk} {r r' : Rp} {R R' : Rf} {s s' z : Nat} (h : Bo W0 B p pl D r R s z) (hW : W0.heap.size ≤ W.heap.size) (hrf : RefAt W r' R' z) (hat : ∀ b, r'.at_ R' b → r.at_ R b ∨ W0.heap.size ≤ b)
    (hd : DiskAt W' B p pl' D') (hf : Fr (pl.has p) W W') (hpl : ∀ q, pl'.has p q → pl.has p q ∨ W.heap.size ≤ q) (ha : Alike D' R' s' z) : Bo W' B p pl' D' r' R' s' z where
  da := hd
  rf := hrf.fr hf (fun b hb hp => by
    rcases hat b hb with h1 | h1
    · exact h.ap b h1 hp
    · have := (h.da.lt b hp).1
      omega)
  al := ha
  ap := fun b hb hp => by
    have hlt := hrf.lt hb
    rcases hpl b hp with h2 | h2
    · rcases hat b hb with h1 | h1
      · exact h.ap b h1 h2
      · have := (h.da.lt b h2).1
        omega
    · omega
  hB := Nat.le_trans h.hB (Nat.le_trans hW hf.size)
theorem Bo.far8 {W W' : World} {B p : Nat} {pl : Pl} {D : Dk} {r : Rp} {R : Rf} {s z g : Nat} (h : Bo W B p pl D r R s z) (hf : Fr (fun k => k = g) W W') (h1 : ¬ pl.has p g) (h2 : ¬ r.at_ R g) : Bo W' B p pl D r R s z where
  da := h.da.fr hf (fun k hk e => by subst e; exact h1 hk)
  rf := h.rf.fr hf (fun b hb e => by subst e; exact h2 hb)
  al := h.al
  ap := h.ap
  hB := Nat.le_trans h.hB hf.size
set_option maxRecDepth 8000 in
theorem sizeDs (x : Ds) : (Try.prog.info? 26).map (·.size) = some x.cs.length := by kernel_rfl
end Go.Proofs.Ytcfkoglehjkkdaa

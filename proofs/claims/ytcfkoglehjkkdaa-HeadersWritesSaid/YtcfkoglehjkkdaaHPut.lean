/- law 8: small words: a store into the newest row, the two disks side by side. -/
import Derived.Test.YtcfkoglehjkkdaaHRwa
import Derived.Test.YtcfkoglehjkkdaaHOpen
namespace Go.Proofs.Ytcfkoglehjkkdaa
open Go.RowKit
attribute [local go_sem] Oper.semAt_some
set_option maxRecDepth 8000 in
theorem wpList_store_g8 {ops : Array Oper} {rest : List Oper} {o : Oper} {a : Act} {w : World} {Q : Exit → Act → World → Prop} (hgd : o.guard = none) (ty : TypeId) (x y : Operand) (ho : o.op = .store ty x y) {g : Nat} (hx : a.eval x = .pointer (some ⟨g, 0, none⟩))
    (cells old : Array Value) (t : TypeId) (hy : a.eval y = .agg cells) (hb : Blk w g t old) (hi : (Try.prog.info? ty).map (·.size) = some cells.size) (hold : old.size = cells.size) (h1 : cells.all (·.oneCell') = true)
    (h : ∀ w', Blk w' g t cells → Fr (fun k => k = g) w w' → wpList Try.prog ops Q rest (a.put o.dst undef) w') : wpList Try.prog ops Q (o :: rest) a w := by
  refine wpList_store_row hgd ty x y ho g cells hx hy t old hb hi hold h1 ?_
  exact h _ (setRow_heap w g _ _ t (0, 0) hb) (setRow_fr8 w g cells)
theorem str_run8 {w : World} {A : Option Addr} {n c : Nat} {l : List UInt8} (hn : l.length = n) (hr : Rd w A l) : (convert 22 9 (.slice A n c)).run Try.prog w = .ok (.string (st l)) w :=
  run_str w Try.underlying22 Try.underlying5 Try.underlying9 hn hr
theorem Bo.mk8 {W0 W W' : World} {B p : Nat} {pl pl' : Pl} {D D' : Dk} {r r' : Rp} {R R' : Rf} {s s' z : Nat} (h : Bo W0 B p pl D r R s z) (hW : W0.heap.size ≤ W.heap.size) (hrf : RefAt W r' R' z) (hat : ∀ b, r'.at_ R' b → r.at_ R b ∨ W0.heap.size ≤ b)
    (hd : DiskAt W' B p pl' D') (hf : Fr (pl.has p) W W') (hpl : ∀ q, pl'.has p q → pl.has p q ∨ W.heap.size ≤ q) (ha : Alike D' R' s' z) : Bo W' B p pl' D' r' R' s' z where
  da := hd
  rf := hrf.fr hf (fun b hb hp => by
    rcases hat b hb with h1 | h1
    · exact h.ap b h1 hp
    · have := (h.da.lt b hp).1
      omega)
  al := ha
  ap := fun b hb hp => by
    have hlt := hrf.lt hb
    rcases hpl b hp with h2 | h2
    · rcases hat b hb with h1 | h1
      · exact h.ap b h1 h2
      · have := (h.da.lt b h2).1
        omega
    · omega
  hB := Nat.le_trans h.hB (Nat.le_trans hW hf.size)
theorem Bo.far8 {W W' : World} {B p : Nat} {pl : Pl} {D : Dk} {r : Rp} {R : Rf} {s z g : Nat} (h : Bo W B p pl D r R s z) (hf : Fr (fun k => k = g) W W') (h1 : ¬ pl.has p g) (h2 : ¬ r.at_ R g) : Bo W' B p pl D r R s z where
  da := h.da.fr hf (fun k hk e => by subst e; exact h1 hk)
  rf := h.rf.fr hf (fun b hb e => by subst e; exact h2 hb)
  al := h.al
  ap := h.ap
  hB := Nat.le_trans h.hB hf.size
set_option maxRecDepth 8000 in
/-- behind the document's WriteHeader the lists lie where they lay, or in a new row -/
theorem at_write8 {W : World} {r r' : Rp} {R : Rf} {s z : Nat} {n : Int} {h : Hd} (e1 : r'.A1 = r.A1) (e3 : r'.A3 = r.A3) (hz : r'.A2 = r.A2 ∧ hwRf R s z n h = R ∨ ∀ b off, r'.A2 = some ⟨b, off, none⟩ → W.heap.size ≤ b) {b : Nat} (hb : r'.at_ (hwRf R s z n h) b) : r.at_ R b ∨ W.heap.size ≤ b := by
  have q1 : (hwRf R s z n h).lb = R.lb := by unfold hwRf; split; rfl; unfold wRf; split; rfl; split <;> rfl
  have q3 : (hwRf R s z n h).fl = R.fl := by unfold hwRf; split; rfl; unfold wRf; split; rfl; split <;> rfl
  obtain ⟨off, ⟨e, hl⟩ | ⟨e, hl⟩ | ⟨e, hl⟩⟩ := hb
  · exact .inl ⟨off, .inl ⟨e1 ▸ e, q1 ▸ hl⟩⟩
  · rcases hz with hz | hz
    · exact .inl ⟨off, .inr (.inl ⟨hz.1 ▸ e, by rw [hz.2] at hl; exact hl⟩)⟩
    · exact .inr (hz b off e)
  · exact .inl ⟨off, .inr (.inr ⟨e3 ▸ e, q3 ▸ hl⟩)⟩
set_option maxRecDepth 8000 in
theorem sizeDs (x : Ds) : (Try.prog.info? 26).map (·.size) = some x.cs.length := by kernel_rfl
set_option maxRecDepth 8000 in
set_option maxHeartbeats 1600000 in
theorem hwrite_nil (n : Int) (h : Hd) (w : World) : Calls Try.prog 11 #[.pointer none, .int .i64 n, h.val] w fun r w' => r = .returned (.int .i64 1) ∧ Below w.heap.size w w' := by
  have L0 := Lib.hid ((Below.refl w.heap.size w).alloc (Nat.le_refl _) (.cells h.cs.toArray 28))
  go_enter Try.func11, Try.ntmps11
  go_wp2_with (go_at_call 35; refine (size_nil _).mono ?_; rintro r w' ⟨rfl, rfl⟩)
  go_ret
  exact ⟨rfl, L0.out⟩
end Go.Proofs.Ytcfkoglehjkkdaa

/- append of bytes onto a row of the call's own, the source nil, empty or not: over any program. -/
import Derived.Test.YtjfcmoappbfnjaaP01
import Derived.Maps.AppendAt
import Derived.OwnWalk
import Derived.Test.YtjfcmoappbfnjaaP02
namespace Go.Proofs.Ytjfcmoappbfnjaa
open Go.RowKit
set_option maxRecDepth 8000 in
theorem add_flat (b off j : Nat) : ((⟨b, off, none⟩ : Addr).add j) = ⟨b, off + j, none⟩ := by
  unfold Addr.add
  split
  · subst_vars; rfl
  · rfl
section
variable {P : Program} (w : World)
set_option maxRecDepth 8000 in
theorem run_append_bytes {t ty e : TypeId} (ht : P.underlying t = some (.slice e)) (hinfo : (P.info? e).map (fun i => (i.zero, i.size, i.bytes)) = some (some (.int .u8 0), 1, 1))
    {base n : Nat} {v : Value} {l : List UInt8} (hown : w.ownsRow base e 1 v n (bv l)) {A : Option Addr} {m c : Nat} {k : List UInt8} (hr : Rd w A k) (hm : k.length = m)
    (hbig : n + m ≤ 100000000) (hbase : base ≤ w.heap.size) :
    ∃ v' w', (Builtin.append_ #[t, t] ty #[v, .slice A m c]).run P w = .ok v' w' ∧ w'.ownsRow base e 1 v' (n + m) (bv (l ++ k)) ∧ w.grownBy w' v.ownBlock ∧
      (v'.ownBlock = v.ownBlock ∨ v'.ownBlock = some w.heap.size) := by
  obtain ⟨i, hi, hz, hs, hb⟩ := info_parts hinfo
  cases A with
  | none =>
    have hk : k = [] := by
      cases k with
      | nil => rfl
      | cons x k =>
        obtain ⟨b, off, h, _⟩ := hr 0 (by simp)
        cases h
    subst hk
    simp only [List.length_nil] at hm
    subst hm
    refine ⟨v, w, ?_, by simpa using hown, World.grownBy.refl w _, .inl rfl⟩
    rcases hown.2 with ⟨rfl, rfl⟩ | ⟨g, cap, cur, rfl, _, _, hnc, _⟩
    · simp [Builtin.append_, run_underlying ht, sizeOf, typeInfo, hi, Builtin.lenOf, Builtin.firstCells]
    · simp [Builtin.append_, run_underlying ht, sizeOf, typeInfo, hi, Builtin.lenOf, Builtin.firstCells, hnc, storeCells]
  | some ad =>
    have hnews : ∀ j u, (bv k)[j]? = some u → w.cell? (ad.add j) = some u := by
      intro j u hu
      rw [bv_get] at hu
      rcases Nat.lt_or_ge j k.length with hj | hj
      · obtain ⟨b, off, h, hc⟩ := hr j hj
        injection h with h
        subst h
        rw [List.getElem?_eq_getElem hj] at hu
        rw [add_flat, hc, ← hu]
        rfl
      · rw [List.getElem?_eq_none hj] at hu
        cases hu
    obtain ⟨v', w', hrun, h2, h3, _, h5⟩ := run_append_own_at (P := P) w base t ty e i (.int .u8 0) 1 1 ht hi hz hs hb rfl (by omega) v n (bv l) hown ad m c (bv k) (by rw [bv_length]; omega) hnews (bv_one k) (by simp only [maxLen]; omega) (by omega) hbase
    exact ⟨v', w', hrun, by rw [bv_append]; exact h2, h3, h5⟩
set_option maxRecDepth 8000 in
theorem wpList_append_bytes {ops : Array Oper} {rest : List Oper} {o : Oper} {a : Act} {Q : Exit → Act → World → Prop} (hgd : o.guard = none) (s x : Operand) (t : TypeId)
    (ho : o.op = .call { callee := .builtin .append, args := #[s, x], argTypes := #[t, t] }) {e : TypeId} (ht : P.underlying t = some (.slice e)) (hinfo : (P.info? e).map (fun i => (i.zero, i.size, i.bytes)) = some (some (.int .u8 0), 1, 1))
    {base n : Nat} {v : Value} {l : List UInt8} (hs : a.eval s = v) (hown : w.ownsRow base e 1 v n (bv l)) {A : Option Addr} {m c : Nat} {k : List UInt8} (hx : a.eval x = .slice A m c) (hr : Rd w A k) (hm : k.length = m)
    (hbig : n + m ≤ 100000000) (hbase : base ≤ w.heap.size)
    (h : ∀ v' w', w'.ownsRow base e 1 v' (n + m) (bv (l ++ k)) → w.grownBy w' v.ownBlock → (v'.ownBlock = v.ownBlock ∨ v'.ownBlock = some w.heap.size) → wpList P ops Q rest (a.put o.dst v') w') : wpList P ops Q (o :: rest) a w := by
  refine wpList_plain hgd fun K hK => ?_
  obtain ⟨v', w', hrun, h2, h3, h4⟩ := run_append_bytes (P := P) w (ty := o.type) ht hinfo hown hr hm (c := c) hbig hbase
  unfold Oper.wp execOp
  simp only [ho, resolve, invoke, builtin, Sem.run_bind, Sem.run_pure, Result.andThen_ok, List.map_toArray, List.map_cons, List.map_nil, hs, hx, hrun]
  exact hK _ _ (h v' w' h2 h3 h4)
theorem below_append {base B : Nat} {e : TypeId} {n : Nat} {v : Value} {xs : List Value} {W w w' : World} (hb : Below B W w) (hown : w.ownsRow base e 1 v n xs) (hg : w.grownBy w' v.ownBlock) (hB : B ≤ base) (hw : B ≤ w.heap.size) : Below B W w' :=
  hb.grown hg hw fun k hk => Nat.le_trans hB (hown.lt k hk).1
end
end Go.Proofs.Ytjfcmoappbfnjaa
namespace Go.Proofs.Ytjfcmoappbfnjaa.S
open Go.RowKit
end Go.Proofs.Ytjfcmoappbfnjaa.S
namespace Go.Proofs.Ytjfcmoappbfnjaa.S
open Go.RowKit
end Go.Proofs.Ytjfcmoappbfnjaa.S
namespace Go.Proofs.Ytjfcmoappbfnjaa.S
open Go.RowKit
/-- so many steps -/
def stepsN : Nat → Nat → Nat
  | 0, s => s
  | k + 1, s => stepN (stepsN k s)
set_option maxRecDepth 8000 in
theorem stepsN_lt {s : Nat} (k : Nat) (h : s < 4294967296) : stepsN k s < 4294967296 := by
  induction k with
  | zero => exact h
  | succ k ih => exact stepN_lt ih
/-- a byte taken into a sum -/
def byteN (s : Nat) (x : UInt8) : Nat := stepsN 8 (s ^^^ x.toNat)
set_option maxRecDepth 8000 in
theorem xor_byte_lt {s : Nat} (x : UInt8) (h : s < 4294967296) : s ^^^ x.toNat < 4294967296 := by
  have := x.toNat_lt
  exact Nat.xor_lt_two_pow (n := 32) (by omega) (by omega)
theorem byteN_lt {s : Nat} (x : UInt8) (h : s < 4294967296) : byteN s x < 4294967296 := stepsN_lt 8 (xor_byte_lt x h)
/-- bytes taken into a sum -/
def rawN (s : Nat) (l : List UInt8) : Nat := l.foldl byteN s
set_option maxRecDepth 8000 in
theorem rawN_lt {s : Nat} (l : List UInt8) (h : s < 4294967296) : rawN s l < 4294967296 := by
  induction l generalizing s with
  | nil => exact h
  | cons x l ih => exact ih (byteN_lt x h)
set_option maxRecDepth 8000 in
theorem rawN_snoc (s : Nat) (l : List UInt8) (x : UInt8) : rawN s (l ++ [x]) = byteN (rawN s l) x := by simp [rawN]
set_option maxRecDepth 8000 in
theorem rawN_append (s : Nat) (l k : List UInt8) : rawN s (l ++ k) = rawN (rawN s l) k := by simp [rawN]
/-- the sum of bytes -/
def crcN (l : List UInt8) : Nat := 4294967295 - rawN 4294967295 l
set_option maxRecDepth 8000 in
theorem crcN_lt (l : List UInt8) : crcN l < 4294967296 := by unfold crcN; omega
end Go.Proofs.Ytjfcmoappbfnjaa.S

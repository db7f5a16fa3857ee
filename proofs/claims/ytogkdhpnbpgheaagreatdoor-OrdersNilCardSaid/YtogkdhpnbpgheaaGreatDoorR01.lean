/- Reading a list of bytes out of memory; a list of bytes that a call has made: words and their laws, over any world. -/
import Derived.WalkKit
import Derived.Below
import Derived.Laws.OwnMore
import Derived.Deep.AppendLies
import Derived.Deep.Draws
import Derived.Lib.Hide
import Derived.Test.YtogkdhpnbpgheaaGreatDoorProg
import Derived.Deep.QuietTactic
import Derived.BigQuiet
import Derived.Maps.AppendAt
import Derived.OwnWalk
import Derived.Laws.BytesArg
namespace Go.Proofs.YtogkdhpnbpgheaaGreatDoor
open Go.RowKit
/-- the cells of bytes -/
def bv (l : List UInt8) : List Value := l.map fun x => .int .u8 (x.toNat : Int)
set_option maxRecDepth 8000 in
theorem bv_length (l : List UInt8) : (bv l).length = l.length := by simp [bv]
set_option maxRecDepth 8000 in
theorem bv_get (l : List UInt8) (j : Nat) : (bv l)[j]? = (l[j]?).map fun x => .int .u8 (x.toNat : Int) := by simp [bv]
set_option maxRecDepth 8000 in
theorem bv_append (a b : List UInt8) : bv (a ++ b) = bv a ++ bv b := by simp [bv]
set_option maxRecDepth 8000 in
theorem bv_one (l : List UInt8) : ∀ u ∈ bv l, u.oneCell' = true := by
  intro u hu
  simp only [bv, List.mem_map] at hu
  obtain ⟨x, _, rfl⟩ := hu
  rfl
set_option maxRecDepth 8000 in
theorem bv_inj {a b : List UInt8} (h : bv a = bv b) : a = b := by
  induction a generalizing b with
  | nil => cases b with
    | nil => rfl
    | cons y b => simp [bv] at h
  | cons x a ih => cases b with
    | nil => simp [bv] at h
    | cons y b =>
      simp only [bv, List.map_cons, List.cons.injEq] at h
      obtain ⟨h1, h2⟩ := h
      rw [ih h2]
      have : x.toNat = y.toNat := by
        injection h1 with _ h1
        omega
      rw [UInt8.toNat_inj.1 this]
set_option maxRecDepth 8000 in
theorem own_base {w : World} {base base' : Nat} {e : TypeId} {size : Nat} {v : Value} {n : Nat} {xs : List Value} (h : w.ownsRow base e size v n xs) (hb : base' ≤ base) : w.ownsRow base' e size v n xs := by
  refine ⟨h.1, ?_⟩
  rcases h.2 with h | ⟨g, cap, cur, h1, h2, h3⟩
  · exact .inl h
  · exact .inr ⟨g, cap, cur, h1, by omega, h3⟩
/-- The cells from A on read as the bytes l. -/
def Rd (w : World) (A : Option Addr) (l : List UInt8) : Prop :=
  ∀ j (h : j < l.length), ∃ b off, A = some ⟨b, off, none⟩ ∧ w.cell? ⟨b, off + j, none⟩ = some (.int .u8 (l[j].toNat : Int))
set_option maxRecDepth 8000 in
theorem cell_lt {w : World} {p : Addr} {v : Value} (h : w.cell? p = some v) : p.block < w.heap.size := by
  rcases Nat.lt_or_ge p.block w.heap.size with hlt | hge
  · exact hlt
  · rw [World.cell?, Array.getElem?_eq_none hge] at h
    cases h
section
variable {w w' : World} {A : Option Addr} {l : List UInt8}
theorem Rd.none_ : Rd w A [] := fun j h => absurd h (by simp)
set_option maxRecDepth 8000 in
theorem Rd.keep (h : Rd w A l) (hk : ∀ p : Addr, p.block < w.heap.size → w'.cell? p = w.cell? p) : Rd w' A l := by
  intro j hj
  obtain ⟨b, off, rfl, hc⟩ := h j hj
  exact ⟨b, off, rfl, (hk _ (cell_lt hc)).trans hc⟩
theorem Rd.below (h : Rd w A l) (hb : Below w.heap.size w w') : Rd w' A l := h.keep fun _ hp => hb.cell hp
theorem Rd.alloc (h : Rd w A l) (o : Obj) : Rd (w.alloc o) A l := h.keep fun p hp => World.cell?_alloc_lt w o p hp
theorem Rd.drew (h : Rd w A l) : Rd w.drew A l := h
theorem Rd.drewN (h : Rd w A l) (k : Nat) : Rd (w.drewN k) A l := h
set_option maxRecDepth 8000 in
theorem Rd.take (h : Rd w A l) (n : Nat) : Rd w A (l.take n) := by
  intro j hj
  have hj' : j < l.length := by simp at hj; omega
  obtain ⟨b, off, e, hc⟩ := h j hj'
  exact ⟨b, off, e, by rw [hc]; simp⟩
set_option maxRecDepth 8000 in
theorem Rd.drop {b off : Nat} (h : Rd w (some ⟨b, off, none⟩) l) (n : Nat) : Rd w (some ⟨b, off + n, none⟩) (l.drop n) := by
  intro j hj
  have hj' : n + j < l.length := by simp at hj; omega
  obtain ⟨b', off', e, hc⟩ := h (n + j) hj'
  injection e with e
  injection e with e1 e2
  subst e1; subst e2
  exact ⟨b, off + n, rfl, by rw [Nat.add_assoc, hc]; simp⟩
set_option maxRecDepth 8000 in
theorem Rd.of_own {base n c : Nat} {t : TypeId} (h : w.ownsRow base t 1 (.slice A n c) n (bv l)) : Rd w A l := by
  intro j hj
  have hn : (bv l).length = n := by simpa using h.1
  rw [bv_length] at hn
  obtain ⟨g, cap, hv, _, _⟩ := h.form (by omega)
  injection hv with hA _ _
  subst hA
  refine ⟨g, 0, rfl, ?_⟩
  have := h.cellAt j (by omega)
  rw [Nat.zero_add, this, bv_get, List.getElem?_eq_getElem hj]
  rfl
end
end Go.Proofs.YtogkdhpnbpgheaaGreatDoor
namespace Go.Proofs.YtogkdhpnbpgheaaGreatDoor
open Go.RowKit
set_option maxRecDepth 8000 in
theorem upI_yes (n g : Int) (w : World) (h0 : 0 ≤ n) (h1 : n ≤ g) : Calls Tryz.prog 142 #[.int .i64 n, .int .i64 g] w fun e w' => e = .returned (.bool true) ∧ w = w' := by
  go_enter Tryz.func142, Tryz.ntmps142
  go_wp2
  go_ret
  exact ⟨rfl, rfl⟩
set_option maxRecDepth 8000 in
theorem upI_no (n g : Int) (w : World) (h : n < 0 ∨ g < n) : Calls Tryz.prog 142 #[.int .i64 n, .int .i64 g] w fun e w' => e = .returned (.bool false) ∧ w = w' := by
  by_cases h0 : 0 ≤ n
  · have h1 : ¬ n ≤ g := by omega
    have d1 : decide (n ≤ g) = false := by simpa using h1
    go_enter Tryz.func142, Tryz.ntmps142
    go_wp2
    go_ret
    exact ⟨rfl, rfl⟩
  · have d1 : decide (0 ≤ n) = false := by simpa using h0
    go_enter Tryz.func142, Tryz.ntmps142
    go_wp2
    go_ret
    exact ⟨rfl, rfl⟩
set_option maxRecDepth 8000 in
theorem upJ_yes (n g : Int) (w : World) (h0 : 0 ≤ n) (h1 : n ≤ g) : Calls Tryz.prog 143 #[.int .i64 n, .int .i64 g] w fun e w' => e = .returned (.bool true) ∧ w = w' := by
  go_enter Tryz.func143, Tryz.ntmps143
  go_wp2
  go_ret
  exact ⟨rfl, rfl⟩
set_option maxRecDepth 8000 in
theorem upJ_no (n g : Int) (w : World) (h : n < 0 ∨ g < n) : Calls Tryz.prog 143 #[.int .i64 n, .int .i64 g] w fun e w' => e = .returned (.bool false) ∧ w = w' := by
  by_cases h0 : 0 ≤ n
  · have h1 : ¬ n ≤ g := by omega
    have d1 : decide (n ≤ g) = false := by simpa using h1
    go_enter Tryz.func143, Tryz.ntmps143
    go_wp2
    go_ret
    exact ⟨rfl, rfl⟩
  · have d1 : decide (0 ≤ n) = false := by simpa using h0
    go_enter Tryz.func143, Tryz.ntmps143
    go_wp2
    go_ret
    exact ⟨rfl, rfl⟩
set_option maxRecDepth 8000 in
theorem upR_yes (n g : Int) (w : World) (h0 : 0 ≤ n) (h1 : n ≤ g) : Calls Tryz.prog 144 #[.int .i64 n, .int .i64 g] w fun e w' => e = .returned (.bool true) ∧ w = w' := by
  go_enter Tryz.func144, Tryz.ntmps144
  go_wp2
  go_ret
  exact ⟨rfl, rfl⟩
set_option maxRecDepth 8000 in
theorem upR_no (n g : Int) (w : World) (h : n < 0 ∨ g < n) : Calls Tryz.prog 144 #[.int .i64 n, .int .i64 g] w fun e w' => e = .returned (.bool false) ∧ w = w' := by
  by_cases h0 : 0 ≤ n
  · have h1 : ¬ n ≤ g := by omega
    have d1 : decide (n ≤ g) = false := by simpa using h1
    go_enter Tryz.func144, Tryz.ntmps144
    go_wp2
    go_ret
    exact ⟨rfl, rfl⟩
  · have d1 : decide (0 ≤ n) = false := by simpa using h0
    go_enter Tryz.func144, Tryz.ntmps144
    go_wp2
    go_ret
    exact ⟨rfl, rfl⟩
end Go.Proofs.YtogkdhpnbpgheaaGreatDoor
namespace Go.Proofs.YtogkdhpnbpgheaaGreatDoor
open Go.RowKit
set_option maxRecDepth 8000 in
theorem add_flat (b off j : Nat) : ((⟨b, off, none⟩ : Addr).add j) = ⟨b, off + j, none⟩ := by
  unfold Addr.add
  split
  · subst_vars; rfl
  · rfl
section
variable {P : Program} (w : World)
set_option maxRecDepth 8000 in
theorem run_append_bytes {t ty e : TypeId} (ht : P.underlying t = some (.slice e)) (hinfo : (P.info? e).map (fun i => (i.zero, i.size, i.bytes)) = some (some (.int .u8 0), 1, 1))
    {base n : Nat} {v : Value} {l : List UInt8} (hown : w.ownsRow base e 1 v n (bv l)) {A : Option Addr} {m c : Nat} {k : List UInt8} (hr : Rd w A k) (hm : k.length = m)
    (hbig : n + m ≤ 100000000) (hbase : base ≤ w.heap.size) :
    ∃ v' w', (Builtin.append_ #[t, t] ty #[v, .slice A m c]).run P w = .ok v' w' ∧ w'.ownsRow base e 1 v' (n + m) (bv (l ++ k)) ∧ w.grownBy w' v.ownBlock ∧
      (v'.ownBlock = v.ownBlock ∨ v'.ownBlock = some w.heap.size) := by
  obtain ⟨i, hi, hz, hs, hb⟩ := info_parts hinfo
  cases A with
  | none =>
    have hk : k = [] := by
      cases k with
      | nil => rfl
      | cons x k =>
        obtain ⟨b, off, h, _⟩ := hr 0 (by simp)
        cases h
    subst hk
    simp only [List.length_nil] at hm
    subst hm
    refine ⟨v, w, ?_, by simpa using hown, World.grownBy.refl w _, .inl rfl⟩
    rcases hown.2 with ⟨rfl, rfl⟩ | ⟨g, cap, cur, rfl, _, _, hnc, _⟩
    · simp [Builtin.append_, run_underlying ht, sizeOf, typeInfo, hi, Builtin.lenOf, Builtin.firstCells]
    · simp [Builtin.append_, run_underlying ht, sizeOf, typeInfo, hi, Builtin.lenOf, Builtin.firstCells, hnc, storeCells]
  | some ad =>
    have hnews : ∀ j u, (bv k)[j]? = some u → w.cell? (ad.add j) = some u := by
      intro j u hu
      rw [bv_get] at hu
      rcases Nat.lt_or_ge j k.length with hj | hj
      · obtain ⟨b, off, h, hc⟩ := hr j hj
        injection h with h
        subst h
        rw [List.getElem?_eq_getElem hj] at hu
        rw [add_flat, hc, ← hu]
        rfl
      · rw [List.getElem?_eq_none hj] at hu
        cases hu
    obtain ⟨v', w', hrun, h2, h3, _, h5⟩ := run_append_own_at (P := P) w base t ty e i (.int .u8 0) 1 1 ht hi hz hs hb rfl (by omega) v n (bv l) hown ad m c (bv k) (by rw [bv_length]; omega) hnews (bv_one k) (by simp only [maxLen]; omega) (by omega) hbase
    exact ⟨v', w', hrun, by rw [bv_append]; exact h2, h3, h5⟩
set_option maxRecDepth 8000 in
theorem wpList_append_bytes {ops : Array Oper} {rest : List Oper} {o : Oper} {a : Act} {Q : Exit → Act → World → Prop} (hgd : o.guard = none) (s x : Operand) (t : TypeId)
    (ho : o.op = .call { callee := .builtin .append, args := #[s, x], argTypes := #[t, t] }) {e : TypeId} (ht : P.underlying t = some (.slice e)) (hinfo : (P.info? e).map (fun i => (i.zero, i.size, i.bytes)) = some (some (.int .u8 0), 1, 1))
    {base n : Nat} {v : Value} {l : List UInt8} (hs : a.eval s = v) (hown : w.ownsRow base e 1 v n (bv l)) {A : Option Addr} {m c : Nat} {k : List UInt8} (hx : a.eval x = .slice A m c) (hr : Rd w A k) (hm : k.length = m)
    (hbig : n + m ≤ 100000000) (hbase : base ≤ w.heap.size)
    (h : ∀ v' w', w'.ownsRow base e 1 v' (n + m) (bv (l ++ k)) → w.grownBy w' v.ownBlock → (v'.ownBlock = v.ownBlock ∨ v'.ownBlock = some w.heap.size) → wpList P ops Q rest (a.put o.dst v') w') : wpList P ops Q (o :: rest) a w := by
  refine wpList_plain hgd fun K hK => ?_
  obtain ⟨v', w', hrun, h2, h3, h4⟩ := run_append_bytes (P := P) w (ty := o.type) ht hinfo hown hr hm (c := c) hbig hbase
  unfold Oper.wp execOp
  simp only [ho, resolve, invoke, builtin, Sem.run_bind, Sem.run_pure, Result.andThen_ok, List.map_toArray, List.map_cons, List.map_nil, hs, hx, hrun]
  exact hK _ _ (h v' w' h2 h3 h4)
theorem below_append {base B : Nat} {e : TypeId} {n : Nat} {v : Value} {xs : List Value} {W w w' : World} (hb : Below B W w) (hown : w.ownsRow base e 1 v n xs) (hg : w.grownBy w' v.ownBlock) (hB : B ≤ base) (hw : B ≤ w.heap.size) : Below B W w' :=
  hb.grown hg hw fun k hk => Nat.le_trans hB (hown.lt k hk).1
set_option maxRecDepth 8000 in
theorem rd_new (w : World) (x : UInt8) (t : TypeId) {i : Int} (h : i = (x.toNat : Int)) : Rd (w.alloc (.cells #[.int .u8 i] t)) (some ⟨w.heap.size, 0, none⟩) [x] := by
  subst h
  intro j hj
  have : j = 0 := by simp at hj; omega
  subst this
  exact ⟨_, _, rfl, by simp⟩
set_option maxRecDepth 8000 in
theorem u8_mod (M : Nat) : ((M : Int) % 256) = ((UInt8.ofNat (M % 256)).toNat : Int) := by simp
set_option maxRecDepth 8000 in
theorem rd_one (w : World) (x : UInt8) (t : TypeId) : Rd (w.alloc (.cells #[.int .u8 (x.toNat : Int)] t)) (some ⟨w.heap.size, 0, none⟩) [x] := by
  intro j hj
  have : j = 0 := by simp at hj; omega
  subst this
  exact ⟨_, _, rfl, by simp⟩
end
end Go.Proofs.YtogkdhpnbpgheaaGreatDoor
namespace Go.Proofs.YtogkdhpnbpgheaaGreatDoor
open Go.RowKit
/-- the string of bytes -/
def st (l : List UInt8) : ByteArray := ⟨l.toArray⟩
set_option maxRecDepth 8000 in
theorem st_inj {a b : List UInt8} (h : st a = st b) : a = b := by
  have := congrArg (fun s : ByteArray => s.data.toList) h
  simpa [st] using this
set_option maxRecDepth 8000 in
theorem st_toList (a : List UInt8) : (st a).toList = a := by
  unfold st
  simp
set_option maxRecDepth 8000 in
theorem st_beq {a b : List UInt8} (h : a = b) : ((st a).toList == (st b).toList) = true := by subst h; simp
set_option maxRecDepth 8000 in
theorem st_bne {a b : List UInt8} (h : a ≠ b) : ((st a).toList == (st b).toList) = false := by
  rw [st_toList, st_toList, beq_eq_false_iff_ne]
  exact h
set_option maxRecDepth 8000 in
theorem run_str {P : Program} (w : World) {src dst e : TypeId} (hs : P.underlying src = some (.slice e)) (he : P.underlying e = some (.int .u8)) (hd : P.underlying dst = some .string)
    {A : Option Addr} {n c : Nat} {l : List UInt8} (hn : l.length = n) (hr : Rd w A l) : (convert src dst (.slice A n c)).run P w = .ok (.string (st l)) w := by
  cases A with
  | none =>
    have hl : l = [] := by
      cases l with
      | nil => rfl
      | cons x l =>
        obtain ⟨b, off, h, _⟩ := hr 0 (by simp)
        cases h
    subst hl
    exact run_convert_bytes_nil w src e hs he n c dst hd
  | some ad =>
    cases l with
    | nil =>
      simp only [List.length_nil] at hn
      subst hn
      rw [run_convert_bytes_string w src dst e _ 0 c hs he hd, run_bytesToString w ad 0 c [] (by simp [loadCells, loadCellsFrom])]
      rfl
    | cons x l =>
      obtain ⟨b, off, h, _⟩ := hr 0 (by simp)
      injection h with h
      subst h
      have := run_convert_bytes_arg w src e hs he b off n c ((x :: l).map fun y => (y.toNat : Int)) (by rw [List.length_map]; exact hn) (fun i hi => by
        obtain ⟨b', off', h', hc⟩ := hr i (by omega)
        injection h' with h'
        injection h' with h1 h2
        subst h1; subst h2
        rw [hc, List.getD_eq_getElem?_getD, List.getElem?_map, List.getElem?_eq_getElem (by omega)]
        rfl) dst hd
      rw [this]
      congr 2
      unfold strOfNums st
      rw [List.map_map]
      congr 2
      have : ∀ y : UInt8, ((fun n : Int => UInt8.ofNat n.toNat) ∘ fun y : UInt8 => (y.toNat : Int)) y = y := by intro y; simp
      rw [funext this]
      simp
end Go.Proofs.YtogkdhpnbpgheaaGreatDoor

/- append of bytes onto a row of the call's own, the source nil, empty or not: over any program. -/
import Derived.Test.YtcfkoglehjkkdaaP01
import Derived.Maps.AppendAt
import Derived.OwnWalk
import Derived.Test.YtcfkoglehjkkdaaP02
namespace Go.Proofs.Ytcfkoglehjkkdaa
open Go.RowKit
set_option maxRecDepth 8000 in
theorem add_flat (b off j : Nat) : ((⟨b, off, none⟩ : Addr).add j) = ⟨b, off + j, none⟩ := by
  unfold Addr.add
  split
  · subst_vars; rfl
  · rfl
section
variable {P : Program} (w : World)
set_option maxRecDepth 8000 in
theorem run_append_bytes {t ty e : TypeId} (ht : P.underlying t = some (.slice e)) (hinfo : (P.info? e).map (fun i => (i.zero, i.size, i.bytes)) = some (some (.int .u8 0), 1, 1))
    {base n : Nat} {v : Value} {l : List UInt8} (hown : w.ownsRow base e 1 v n (bv l)) {A : Option Addr} {m c : Nat} {k : List UInt8} (hr : Rd w A k) (hm : k.length = m)
    (hbig : n + m ≤ 100000000) (hbase : base ≤ w.heap.size) :
    ∃ v' w', (Builtin.append_ #[t, t] ty #[v, .slice A m c]).run P w = .ok v' w' ∧ w'.ownsRow base e 1 v' (n + m) (bv (l ++ k)) ∧ w.grownBy w' v.ownBlock ∧
      (v'.ownBlock = v.ownBlock ∨ v'.ownBlock = some w.heap.size) := by
  obtain ⟨i, hi, hz, hs, hb⟩ := info_parts hinfo
  cases A with
  | none =>
    have hk : k = [] := by
      cases k with
      | nil => rfl
      | cons x k =>
        obtain ⟨b, off, h, _⟩ := hr 0 (by simp)
        cases h
    subst hk
    simp only [List.length_nil] at hm
    subst hm
    refine ⟨v, w, ?_, by simpa using hown, World.grownBy.refl w _, .inl rfl⟩
    rcases hown.2 with ⟨rfl, rfl⟩ | ⟨g, cap, cur, rfl, _, _, hnc, _⟩
    · simp [Builtin.append_, run_underlying ht, sizeOf, typeInfo, hi, Builtin.lenOf, Builtin.firstCells]
    · simp [Builtin.append_, run_underlying ht, sizeOf, typeInfo, hi, Builtin.lenOf, Builtin.firstCells, hnc, storeCells]
  | some ad =>
    have hnews : ∀ j u, (bv k)[j]? = some u → w.cell? (ad.add j) = some u := by
      intro j u hu
      rw [bv_get] at hu
      rcases Nat.lt_or_ge j k.length with hj | hj
      · obtain ⟨b, off, h, hc⟩ := hr j hj
        injection h with h
        subst h
        rw [List.getElem?_eq_getElem hj] at hu
        rw [add_flat, hc, ← hu]
        rfl
      · rw [List.getElem?_eq_none hj] at hu
        cases hu
    obtain ⟨v', w', hrun, h2, h3, _, h5⟩ := run_append_own_at (P := P) w base t ty e i (.int .u8 0) 1 1 ht hi hz hs hb rfl (by omega) v n (bv l) hown ad m c (bv k) (by rw [bv_length]; omega) hnews (bv_one k) (by simp only [maxLen]; omega) (by omega) hbase
    exact ⟨v', w', hrun, by rw [bv_append]; exact h2, h3, h5⟩
set_option maxRecDepth 8000 in
theorem wpList_append_bytes {ops : Array Oper} {rest : List Oper} {o : Oper} {a : Act} {Q : Exit → Act → World → Prop} (hgd : o.guard = none) (s x : Operand) (t : TypeId)
    (ho : o.op = .call { callee := .builtin .append, args := #[s, x], argTypes := #[t, t] }) {e : TypeId} (ht : P.underlying t = some (.slice e)) (hinfo : (P.info? e).map (fun i => (i.zero, i.size, i.bytes)) = some (some (.int .u8 0), 1, 1))
    {base n : Nat} {v : Value} {l : List UInt8} (hs : a.eval s = v) (hown : w.ownsRow base e 1 v n (bv l)) {A : Option Addr} {m c : Nat} {k : List UInt8} (hx : a.eval x = .slice A m c) (hr : Rd w A k) (hm : k.length = m)
    (hbig : n + m ≤ 100000000) (hbase : base ≤ w.heap.size)
    (h : ∀ v' w', w'.ownsRow base e 1 v' (n + m) (bv (l ++ k)) → w.grownBy w' v.ownBlock → (v'.ownBlock = v.ownBlock ∨ v'.ownBlock = some w.heap.size) → wpList P ops Q rest (a.put o.dst v') w') : wpList P ops Q (o :: rest) a w := by
  refine wpList_plain hgd fun K hK => ?_
  obtain ⟨v', w', hrun, h2, h3, h4⟩ := run_append_bytes (P := P) w (ty := o.type) ht hinfo hown hr hm (c := c) hbig hbase
  unfold Oper.wp execOp
  simp only [ho, resolve, invoke, builtin, Sem.run_bind, Sem.run_pure, Result.andThen_ok, List.map_toArray, List.map_cons, List.map_nil, hs, hx, hrun]
  exact hK _ _ (h v' w' h2 h3 h4)
theorem below_append {base B : Nat} {e : TypeId} {n : Nat} {v : Value} {xs : List Value} {W w w' : World} (hb : Below B W w) (hown : w.ownsRow base e 1 v n xs) (hg : w.grownBy w' v.ownBlock) (hB : B ≤ base) (hw : B ≤ w.heap.size) : Below B W w' :=
  hb.grown hg hw fun k hk => Nat.le_trans hB (hown.lt k hk).1
set_option maxRecDepth 8000 in
theorem rd_new (w : World) (x : UInt8) (t : TypeId) {i : Int} (h : i = (x.toNat : Int)) : Rd (w.alloc (.cells #[.int .u8 i] t)) (some ⟨w.heap.size, 0, none⟩) [x] := by
  subst h
  intro j hj
  have : j = 0 := by simp at hj; omega
  subst this
  exact ⟨_, _, rfl, by simp⟩
set_option maxRecDepth 8000 in
theorem u8_mod (M : Nat) : ((M : Int) % 256) = ((UInt8.ofNat (M % 256)).toNat : Int) := by simp
set_option maxRecDepth 8000 in
theorem rd_one (w : World) (x : UInt8) (t : TypeId) : Rd (w.alloc (.cells #[.int .u8 (x.toNat : Int)] t)) (some ⟨w.heap.size, 0, none⟩) [x] := by
  intro j hj
  have : j = 0 := by simp at hj; omega
  subst this
  exact ⟨_, _, rfl, by simp⟩
end
end Go.Proofs.Ytcfkoglehjkkdaa
namespace Go.Proofs.Ytcfkoglehjkkdaa.S
open Go.RowKit
/-- may a number have so many bytes? -/
def Wide (b : Int) : Prop := b = 2 ∨ b = 4 ∨ b = 8
set_option maxRecDepth 8000 in
set_option maxHeartbeats 400000 in
theorem wide_yes (b : Int) (w : World) (h : Wide b) : Calls Try.prog 88 #[.int .i64 b] w fun e w' => e = .returned (.bool true) ∧ w = w' := by
  rcases h with rfl | rfl | rfl
  all_goals
    go_enter Try.func88, Try.ntmps88
    go_wp2
    go_ret
    exact ⟨rfl, rfl⟩
set_option maxRecDepth 8000 in
set_option maxHeartbeats 400000 in
theorem wide_no (b : Int) (w : World) (h : ¬ Wide b) : Calls Try.prog 88 #[.int .i64 b] w fun e w' => e = .returned (.bool false) ∧ w = w' := by
  have h2 : (b == 2) = false := by simp; intro e; exact h (.inl e)
  have h4 : (b == 4) = false := by simp; intro e; exact h (.inr (.inl e))
  have h8 : (b == 8) = false := by simp; intro e; exact h (.inr (.inr e))
  clear h
  go_enter Try.func88, Try.ntmps88
  go_wp2
  go_ret
  exact ⟨rfl, rfl⟩
set_option maxRecDepth 8000 in
set_option maxHeartbeats 400000 in
theorem rput_no (n b : Int) (w : World) (h : ¬ Wide b ∨ n < 0) :
    Calls Try.prog 69 #[.int .i64 n, .int .i64 b] w fun e w' => e = .returned (.tuple #[.slice none 0 0, .bool false]) ∧ w = w' := by
  by_cases hw : Wide b
  · have h0 : n < 0 := by
      rcases h with h | h
      · exact absurd hw h
      · exact h
    clear h
    have HW := Lib.hid hw
    clear hw
    go_enter Try.func69, Try.ntmps69
    go_wp2_with (go_at_call 88; refine (wide_yes _ _ HW.out).mono ?_; rintro e w' ⟨rfl, rfl⟩)
    go_ret2
    exact ⟨rfl, rfl⟩
  · clear h
    have HW := Lib.hid hw
    clear hw
    go_enter Try.func69, Try.ntmps69
    go_wp2_with (go_at_call 88; refine (wide_no _ _ HW.out).mono ?_; rintro e w' ⟨rfl, rfl⟩)
    go_ret2
    exact ⟨rfl, rfl⟩
set_option maxRecDepth 8000 in
theorem eq0_cast (N j : Nat) : ((N : Int) / 256 ^ j == 0) = (N / 256 ^ j == 0) := by
  rw [show ((N : Int) / 256 ^ j) = ((N / 256 ^ j : Nat) : Int) by simp]
  generalize N / 256 ^ j = x
  rw [Bool.eq_iff_iff]
  simp
set_option maxRecDepth 8000 in
set_option maxHeartbeats 800000 in
theorem rput_yes (N k : Nat) (w : World) (hw : Wide k) (hN : (N : Int) ≤ 9223372036854775807) :
    Calls Try.prog 69 #[.int .i64 (N : Int), .int .i64 (k : Int)] w fun e w' => ∃ v, e = .returned (.tuple #[v, .bool (N / 256 ^ k == 0)]) ∧ w'.ownsRow w.heap.size 5 1 v k (bv (bytesLE k N)) ∧ Below w.heap.size w w' := by
  have hk8 : k ≤ 8 := by rcases hw with h | h | h <;> omega
  have h0 : ¬ (N : Int) < 0 := by omega
  have HW := Lib.hid hw
  clear hw
  go_enter Try.func69, Try.ntmps69
  go_wp2_with (go_at_call 88; refine (wide_yes _ _ HW.out).mono ?_; rintro e w' ⟨rfl, rfl⟩)
  go_loopw [0, 6, 7] (fun m v i wr => ∃ j : Nat, j ≤ k ∧ i = .int .i64 j ∧ m = .int .i64 ((N / 256 ^ j : Nat) : Int) ∧ wr.ownsRow w.heap.size 5 1 v j (bv (bytesLE j N)) ∧ Below w.heap.size w wr) (fun _ _ i _ => k - (intOf i).toNat)
  case atStart => exact ⟨0, by omega, rfl, by simp, World.ownsRow_nil _ _ _ _, Below.refl _ _⟩
  case round =>
    obtain ⟨j, hj, rfl, rfl, hown, hbel⟩ := hrel
    by_cases hlt : j < k
    · obtain ⟨M, hM⟩ : ∃ M, M = N / 256 ^ j := ⟨_, rfl⟩
      rw [← hM]
      have hMN : (M : Int) ≤ 9223372036854775807 := by
        have : M ≤ N := by rw [hM]; exact Nat.div_le_self _ _
        omega
      have hwr := hbel.size
      have HM := Lib.hid hM
      have HB := Lib.hid hbel
      clear hM hbel
      go_wp2_with (at_builtin; refine wpList_append_bytes _ rfl _ _ _ rfl Try.underlying22 infoU8 rfl (hown.alloc _) rfl (rd_new _ (UInt8.ofNat (M % 256)) _ (u8_mod M)) rfl (by omega) (by simp; omega) ?_; intro v' w1 hown1 hg1 hat1)
      have hM := HM.out
      have hb1 := below_append (HB.out.alloc hwr _) (hown.alloc (.cells #[.int .u8 ((M : Int) % 256)] 5)) hg1 (Nat.le_refl _) (by simp; omega)
      have e1 : N / 256 ^ (j + 1) = M / 256 := by rw [hM, Nat.div_div_eq_div_mul, Nat.pow_succ]
      have e2 : bytesLE (j + 1) N = bytesLE j N ++ [UInt8.ofNat (M % 256)] := by rw [bytesLE_snoc, hM]
      clear hM
      go_roundw
      case rel => exact ⟨j + 1, by omega, by go_num, by rw [e1]; simp, by rw [e2]; exact hown1, hb1⟩
      case measure => simp [intOf]; omega
    · obtain rfl : j = k := by omega
      go_wp2
      go_ret2
      exact ⟨_, by simp [eq0_cast], hown, hbel⟩
end Go.Proofs.Ytcfkoglehjkkdaa.S
namespace Go.Proofs.Ytcfkoglehjkkdaa.S
open Go.RowKit
set_option maxRecDepth 8000 in
theorem numLE_drop (l : List UInt8) (k : Nat) (h : k < l.length) : numLE (l.drop k) = l[k].toNat + 256 * numLE (l.drop (k + 1)) := by
  rw [List.drop_eq_getElem_cons h, numLE]
set_option maxRecDepth 8000 in
theorem numLE_drop_lt (l : List UInt8) (k : Nat) (hk : k ≤ l.length) (h : numLE l ≤ 9223372036854775807) : numLE (l.drop k) ≤ 9223372036854775807 := by
  induction k with
  | zero => simpa using h
  | succ k ih =>
    have h1 := ih (by omega)
    rw [numLE_drop l k (by omega)] at h1
    omega
set_option maxRecDepth 8000 in
theorem beq_int_ne (a b : Int) (h : a ≠ b) : (a == b) = false := by simpa using h
set_option maxRecDepth 8000 in
set_option maxHeartbeats 400000 in
theorem rget_none (A : Option Addr) (n c : Nat) (w : World) (h : ¬ Wide n) :
    Calls Try.prog 83 #[.slice A n c] w fun e w' => e = .returned (.tuple #[.int .i64 0, .bool false]) ∧ w = w' := by
  have HW := Lib.hid h
  clear h
  go_enter Try.func83, Try.ntmps83
  go_wp2_with (go_at_call 88; refine (wide_no _ _ HW.out).mono ?_; rintro e w' ⟨rfl, rfl⟩)
  go_ret2
  exact ⟨rfl, rfl⟩
set_option maxRecDepth 8000 in
set_option maxHeartbeats 400000 in
theorem rget_big (A : Option Addr) (c : Nat) (l : List UInt8) (w : World) (hn : l.length = 8) (hr : Rd w A l) (h : 127 < (l[7]'(by omega)).toNat) :
    Calls Try.prog 83 #[.slice A (8 : Nat) c] w fun e w' => e = .returned (.tuple #[.int .i64 0, .bool false]) ∧ w = w' := by
  obtain ⟨b, off, rfl, hc⟩ := hr 7 (by omega)
  have HR := Lib.hid hr
  have HW := Lib.hid (show Wide ((8 : Nat) : Int) from .inr (.inr rfl))
  have hlt : (127 : Int) < ((l[7]'(by omega)).toNat : Int) := by omega
  clear hr h
  go_enter Try.func83, Try.ntmps83
  go_wp2_with (go_at_call 88; refine (wide_yes _ _ HW.out).mono ?_; rintro e w' ⟨rfl, rfl⟩)
  go_ret2
  exact ⟨rfl, rfl⟩
set_option maxRecDepth 8000 in
theorem w64_of (x : Int) (h0 : 0 ≤ x) (h : x ≤ 9223372036854775807) : wrap64 x = x := by
  unfold wrap64
  omega
set_option maxRecDepth 8000 in
theorem rget_loop (n : Nat) (l : List UInt8) (hn : l.length = n) (k : Nat) (hk : k + 1 ≤ n) (h : numLE l ≤ 9223372036854775807) :
    wrap64 (wrap64 ((numLE (l.drop (k + 1)) : Int) * 256) + wrap64 ((l[k]'(by omega)).toNat : Int)) = (numLE (l.drop k) : Int) := by
  have h1 := numLE_drop_lt l k (by omega) h
  rw [numLE_drop l k (by omega)] at h1 ⊢
  rw [w64_of ((l[k]'(by omega)).toNat : Int) (by omega) (by omega), w64_of ((numLE (l.drop (k + 1)) : Int) * 256) (by omega) (by omega), w64_of _ (by omega) (by omega)]
  omega
set_option maxRecDepth 8000 in
set_option maxHeartbeats 800000 in
theorem rget_yes1 (A : Option Addr) (n c : Nat) (l : List UInt8) (w : World) (HN : Hid (l.length = n)) (HR : Hid (Rd w A l)) (HW : Hid (Wide n)) (hn8 : n ≤ 8) (HL : Hid (numLE l ≤ 9223372036854775807)) (hg' : ((n : Int) == 8) = false) :
    Calls Try.prog 83 #[.slice A n c] w fun e w' => e = .returned (.tuple #[.int .i64 (numLE l : Int), .bool true]) ∧ w = w' := by
  go_enter Try.func83, Try.ntmps83
  go_wp2_with (go_at_call 88; refine (wide_yes _ _ HW.out).mono ?_; rintro e w' ⟨rfl, rfl⟩)
  go_loop [4, 5] (fun a i => ∃ k : Nat, k ≤ n ∧ i = .int .i64 ((k : Int) - 1) ∧ a = .int .i64 (numLE (l.drop k) : Int)) (fun _ i => (intOf i + 1).toNat)
  case atStart => exact ⟨n, by omega, rfl, by rw [List.drop_eq_nil_of_le (by have := HN.out; omega)]; rfl⟩
  case round =>
    obtain ⟨k, hk, rfl, rfl⟩ := hrel
    cases k with
    | zero =>
      have hge : ¬ (0 : Int) ≤ ((0 : Nat) : Int) - 1 := by omega
      go_wp2
      go_ret2
      exact ⟨rfl, rfl⟩
    | succ k =>
      obtain ⟨b, off, hA, hc⟩ := HR.out k (by have := HN.out; omega)
      subst hA
      have hge : (0 : Int) ≤ ((k + 1 : Nat) : Int) - 1 := by omega
      have hidx : (((k + 1 : Nat) : Int) - 1) = (k : Int) := by omega
      have hstep := Lib.hid (rget_loop n l HN.out k (by omega) HL.out)
      rw [hidx]
      clear hidx hge
      have hk0 : k < n := by omega
      go_wp2
      go_round
      case rel => exact ⟨k, by omega, rfl, congrArg (Value.int .i64) hstep.out⟩
      case measure => simp [intOf]
set_option maxRecDepth 8000 in
set_option maxHeartbeats 800000 in
theorem rget_yes2 (b off : Nat) (n c : Nat) (x : Int) (l : List UInt8) (w : World) (HN : Hid (l.length = n)) (HR : Hid (Rd w (some ⟨b, off, none⟩) l)) (HW : Hid (Wide n)) (hn8 : n ≤ 8) (h8 : 7 < n) (HL : Hid (numLE l ≤ 9223372036854775807)) (hg' : ((n : Int) == 8) = true)
    (hc7 : w.cell? ⟨b, off + 7, none⟩ = some (.int .u8 x)) (hx : ¬ 127 < x) :
    Calls Try.prog 83 #[.slice (some ⟨b, off, none⟩) n c] w fun e w' => e = .returned (.tuple #[.int .i64 (numLE l : Int), .bool true]) ∧ w = w' := by
  go_enter Try.func83, Try.ntmps83
  go_wp2_with (go_at_call 88; refine (wide_yes _ _ HW.out).mono ?_; rintro e w' ⟨rfl, rfl⟩)
  go_loop [4, 5] (fun a i => ∃ k : Nat, k ≤ n ∧ i = .int .i64 ((k : Int) - 1) ∧ a = .int .i64 (numLE (l.drop k) : Int)) (fun _ i => (intOf i + 1).toNat)
  case atStart => exact ⟨n, by omega, rfl, by rw [List.drop_eq_nil_of_le (by have := HN.out; omega)]; rfl⟩
  case round =>
    obtain ⟨k, hk, rfl, rfl⟩ := hrel
    cases k with
    | zero =>
      have hge : ¬ (0 : Int) ≤ ((0 : Nat) : Int) - 1 := by omega
      go_wp2
      go_ret2
      exact ⟨rfl, rfl⟩
    | succ k =>
      obtain ⟨b, off, hA, hc⟩ := HR.out k (by have := HN.out; omega)
      injection hA with hA
      injection hA with hA1 hA2 _
      subst hA1
      subst hA2
      have hge : (0 : Int) ≤ ((k + 1 : Nat) : Int) - 1 := by omega
      have hidx : (((k + 1 : Nat) : Int) - 1) = (k : Int) := by omega
      have hstep := Lib.hid (rget_loop n l HN.out k (by omega) HL.out)
      rw [hidx]
      clear hidx hge
      have hk0 : k < n := by omega
      go_wp2
      go_round
      case rel => exact ⟨k, by omega, rfl, congrArg (Value.int .i64) hstep.out⟩
      case measure => simp [intOf]
set_option maxRecDepth 8000 in
theorem rget_yes (A : Option Addr) (n c : Nat) (l : List UInt8) (w : World) (hn : l.length = n) (hr : Rd w A l) (hw : Wide n) (h : numLE l ≤ 9223372036854775807) (h7 : ∀ h : n = 8, (l[7]'(by omega)).toNat ≤ 127) :
    Calls Try.prog 83 #[.slice A n c] w fun e w' => e = .returned (.tuple #[.int .i64 (numLE l : Int), .bool true]) ∧ w = w' := by
  have hn8 : n ≤ 8 := by rcases hw with h | h | h <;> omega
  by_cases e8 : n = 8
  · obtain ⟨b, off, rfl, hc⟩ := hr 7 (by omega)
    have hx := h7 e8
    exact rget_yes2 b off n c _ l w hn hr hw hn8 (by omega) h (by simp; omega) hc (by omega)
  · exact rget_yes1 A n c l w hn hr hw hn8 h (by simp; omega)
end Go.Proofs.Ytcfkoglehjkkdaa.S
namespace Go.Proofs.Ytcfkoglehjkkdaa.S
open Go.RowKit
/-- so many steps -/
def stepsN : Nat → Nat → Nat
  | 0, s => s
  | k + 1, s => stepN (stepsN k s)
set_option maxRecDepth 8000 in
theorem stepsN_lt {s : Nat} (k : Nat) (h : s < 4294967296) : stepsN k s < 4294967296 := by
  induction k with
  | zero => exact h
  | succ k ih => exact stepN_lt ih
/-- a byte taken into a sum -/
def byteN (s : Nat) (x : UInt8) : Nat := stepsN 8 (s ^^^ x.toNat)
set_option maxRecDepth 8000 in
theorem xor_byte_lt {s : Nat} (x : UInt8) (h : s < 4294967296) : s ^^^ x.toNat < 4294967296 := by
  have := x.toNat_lt
  exact Nat.xor_lt_two_pow (n := 32) (by omega) (by omega)
theorem byteN_lt {s : Nat} (x : UInt8) (h : s < 4294967296) : byteN s x < 4294967296 := stepsN_lt 8 (xor_byte_lt x h)
/-- bytes taken into a sum -/
def rawN (s : Nat) (l : List UInt8) : Nat := l.foldl byteN s
set_option maxRecDepth 8000 in
theorem rawN_lt {s : Nat} (l : List UInt8) (h : s < 4294967296) : rawN s l < 4294967296 := by
  induction l generalizing s with
  | nil => exact h
  | cons x l ih => exact ih (byteN_lt x h)
set_option maxRecDepth 8000 in
theorem rawN_snoc (s : Nat) (l : List UInt8) (x : UInt8) : rawN s (l ++ [x]) = byteN (rawN s l) x := by simp [rawN]
set_option maxRecDepth 8000 in
theorem rawN_append (s : Nat) (l k : List UInt8) : rawN s (l ++ k) = rawN (rawN s l) k := by simp [rawN]
/-- the sum of bytes -/
def crcN (l : List UInt8) : Nat := 4294967295 - rawN 4294967295 l
set_option maxRecDepth 8000 in
theorem crcN_lt (l : List UInt8) : crcN l < 4294967296 := by unfold crcN; omega
end Go.Proofs.Ytcfkoglehjkkdaa.S

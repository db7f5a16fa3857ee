/- codec: a sector in which bits are turned; the argument that CodecBack takes. Plain. -/
import Derived.Test.YtfclkkbmgclfgaaDoorFsp
import Derived.Test.YtfclkkbmgclfgaaDoorFr9
import Derived.Lib.SmallJoins
namespace Go.Proofs.YtfclkkbmgclfgaaDoor
open Go.RowKit Go.ChangeShapes Go.WideShapes Go.ChangeAt
set_option maxRecDepth 8000 in
theorem okB_sum {l : List UInt8} (hl : l.length = 512) : okB l = true ↔ sumok l := by
  unfold okB sumok
  rw [hl, show (512 : Nat) - 4 = 508 from rfl]
  simp
set_option maxRecDepth 8000 in
theorem numLE_eq {a b : List UInt8} (hl : a.length = b.length) (h : numLE a = numLE b) : a = b := by
  rw [← bytesLE_numLE a, ← bytesLE_numLE b, hl, h]
set_option maxRecDepth 8000 in
/-- up to 32 bits of a sealed sector are turned: it is the same, or its sum is not right -/
theorem burst_end {S0 S : List UInt8} {f B : Nat} (h0 : S0.length = 512) (hS : S.length = 512) (hok : sumok S0) (hn : numLE S = numLE S0 ^^^ (2 ^ f * B)) (hf : f ≤ 4096) (hB : B < 4294967296) : (S = S0) ∨ (S ≠ S0 ∧ ¬ sumok S) := by
  have hb := okB_burst S0 S f B (by omega) (by omega) ((okB_sum h0).2 hok) hn (by omega) hB
  by_cases e : B = 0
  · subst e
    rw [Nat.mul_zero, Nat.xor_zero] at hn
    exact .inl (numLE_eq (by omega) hn)
  · rw [decide_eq_false e] at hb
    refine .inr ⟨fun h => ?_, fun h => ?_⟩
    · rw [h, (okB_sum h0).2 hok] at hb
      cases hb
    · rw [(okB_sum hS).2 h] at hb
      cases hb
theorem kof_fit {l : List UInt8} (h : good l) : (kof l).fit := fit_of h.2 (sg_in _ (num_b _ 8 (by decide))).1 (sg_in _ (num_b _ 8 (by decide))).2
set_option maxRecDepth 8000 in
theorem u8_pow (r : Nat) (hr : r < 8) : (UInt8.ofNat (2 ^ r)).toNat = 2 ^ r := by
  have hp : (2 : Nat) ^ r < 256 := Nat.pow_lt_pow_right (a := 2) (by omega) hr
  show (2 ^ r) % 256 = 2 ^ r
  exact Nat.mod_eq_of_lt hp
set_option maxRecDepth 8000 in
theorem xor_u8 (x : UInt8) (r : Nat) (hr : r < 8) : bits BinOp.xor IntKind.u8 (x.toNat : Int) (IntKind.u8.wrap (2 ^ r)) = ((x ^^^ UInt8.ofNat (2 ^ r)).toNat : Int) := by
  have hx := x.toNat_lt
  have hp : (2 : Nat) ^ r < 256 := Nat.pow_lt_pow_right (a := 2) (by omega) hr
  have e : IntKind.u8.wrap (2 ^ r) = ((2 ^ r : Nat) : Int) := by
    rw [IntKind.wrap_u8', show ((2 : Int) ^ r) = ((2 ^ r : Nat) : Int) by simp]
    generalize 2 ^ r = p at hp ⊢
    omega
  rw [e, u8_xor_nat _ _ (by omega) hp, UInt8.toNat_xor, u8_pow r hr]
set_option maxRecDepth 8000 in
theorem bv_set (S : List UInt8) (q : Nat) (x : UInt8) (_ : q < S.length) : (bv S).set q (.int .u8 (x.toNat : Int)) = bv (S.set q x) := by
  simp [bv, List.map_set]
set_option maxRecDepth 8000 in
theorem burst_step {S S0 : List UInt8} {f k B q r : Nat} (hq : q < S.length) (hqe : q = (f + k) / 8) (hre : r = (f + k) % 8) (hr : r < 8) (hB : B < 2 ^ k) (h : numLE S = numLE S0 ^^^ (2 ^ f * B)) : numLE (S.set q (S[q] ^^^ UInt8.ofNat (2 ^ r))) = numLE S0 ^^^ (2 ^ f * (2 ^ k + B)) := by
  rw [numLE_set S q _ hq, h, u8_pow r hr, hqe, hre, bit_at, Nat.xor_assoc, burst_more f k B hB]
section
variable {ops : Array Oper} {o : Oper} {a : Act} {S : World → Prop} {p q : Operand}
set_option maxRecDepth 8000 in
theorem y_kyne_self (hw : Region.wanted o (yielded ops a.tmps) = true) (ho : o.op = .binOp .neq 26 p q 26) (x : Ky) (hx : a.eval p = x.val) (hy : a.eval q = x.val) : YieldsIf Tryd.prog ops S o (.bool false) a := by
  have := y_kyne (S := S) hw ho x x hx hy
  simpa using this
set_option maxRecDepth 8000 in
theorem y_obne_self (hw : Region.wanted o (yielded ops a.tmps) = true) (ho : o.op = .binOp .neq 30 p q 30) (x : Oj) (hx : a.eval p = x.val) (hy : a.eval q = x.val) : YieldsIf Tryd.prog ops S o (.bool false) a := by
  have := y_obne (S := S) hw ho x x hx hy
  simpa using this
end
set_option maxRecDepth 8000 in
theorem wf_u32 {n : Int} (h : (Lit.int .u32 n).wf = true) : 0 ≤ n ∧ n ≤ 4294967295 := by
  have h1 : IntKind.u32.min = 0 := rfl
  have h2 : IntKind.u32.max = 4294967295 := rfl
  simp only [Lit.wf, Bool.and_eq_true, decide_eq_true_eq] at h
  omega
section
variable {H : Type} {enc : TypeId × Value → H} {W : World} {base : Nat} {held : Bool}
set_option maxRecDepth 8000 in
theorem open_spoilt {r : Reach} {b0 : Nat} {v : Value} {d : DataW H} {p : List MemPlace} (hv : Value.okWide Tryd.prog W r b0 36 v) (h : DataW.Trod enc Tryd.prog W base (fun _ => true) held 36 v d p) :
    ∃ (A : Option Addr) (n c : Nat) (f : Int) (b : Nat) (l : List UInt8), v = .agg #[.slice A n c, .int .i64 f, .int .u32 (b : Int)] ∧ l.length = n ∧ n ≤ c ∧ Rd W A l ∧ b < 4294967296 := by
  obtain ⟨cs, rfl, _⟩ := okWide_struct Tryd.underlying36 hv
  obtain ⟨fu, hf⟩ := h
  obtain ⟨xs, n, _, _, hl, hn, hel⟩ := DataW.trod_struct Tryd.underlying36 hf
  rw [show Tryd.prog.cellsOf 36 = 3 by kernel_rfl] at hl
  obtain ⟨cs⟩ := cs
  simp only [Value.cells] at hl hel
  match xs, hn with
  | [y0, y1], _ =>
    have h0 : DataW.trod enc Tryd.prog W base (fun _ => true) held n 31 ((cs.drop 0).take (Tryd.prog.cellsOf 31)) = some y0 := hel 0 _ rfl
    have h1 : DataW.trod enc Tryd.prog W base (fun _ => true) held n 34 ((cs.drop 1).take (Tryd.prog.cellsOf 34)) = some y1 := hel 1 _ rfl
    rw [show Tryd.prog.cellsOf 31 = 1 by kernel_rfl] at h0
    rw [show Tryd.prog.cellsOf 34 = 2 by kernel_rfl] at h1
    match cs, hl with
    | [c0, c1, c2], _ =>
      simp only [List.drop_zero, List.take_succ_cons, List.take_zero, List.drop_succ_cons] at h0 h1
      obtain ⟨xs', n', _, _, hl', hn', hel'⟩ := DataW.trod_struct Tryd.underlying34 h1
      match xs', hn' with
      | [z0, z1], _ =>
        have g0 : DataW.trod enc Tryd.prog W base (fun _ => true) held n' 3 (([c1, c2].drop 0).take (Tryd.prog.cellsOf 3)) = some z0 := hel' 0 _ rfl
        have g1 : DataW.trod enc Tryd.prog W base (fun _ => true) held n' 32 (([c1, c2].drop 1).take (Tryd.prog.cellsOf 32)) = some z1 := hel' 1 _ rfl
        rw [show Tryd.prog.cellsOf 3 = 1 by kernel_rfl] at g0
        rw [show Tryd.prog.cellsOf 32 = 1 by kernel_rfl] at g1
        obtain ⟨f, e0, _, _⟩ := DataW.trod_int Tryd.underlying3 g0
        obtain ⟨b, e1, _, hw⟩ := DataW.trod_int Tryd.underlying32 g1
        simp only [List.drop_zero, List.take_succ_cons, List.take_zero, List.drop_succ_cons, List.cons.injEq, and_true] at e0 e1
        subst e0 e1
        have hb := wf_u32 hw
        obtain ⟨b', rfl⟩ := Int.eq_ofNat_of_zero_le hb.1
        rcases open_ints Tryd.underlying31 Tryd.underlying5 (by kernel_rfl) h0 with ⟨hcs, _⟩ | ⟨x, l, c, zs, hcs, _, hl, hm, hz, _, hcell, hwz⟩
        · simp only [List.cons.injEq, and_true] at hcs
          subst hcs
          obtain ⟨l, h1, h2, h3⟩ := row_bytes (.inl ⟨rfl, rfl, rfl, rfl⟩ : IsRow .u8 W none 0 0 [])
          exact ⟨none, 0, 0, f, b', l, rfl, h1, h2, h3, by omega⟩
        · simp only [List.cons.injEq, and_true] at hcs
          subst hcs
          obtain ⟨l', h1, h2, h3⟩ := row_bytes (.inr ⟨_, rfl, hl, hm, by simpa using hz, hcell, hwz⟩)
          exact ⟨some x, l, c, f, b', l', rfl, h1, h2, h3, by omega⟩
end
end Go.Proofs.YtfclkkbmgclfgaaDoor

/- codec: noughts, blank. -/
import Derived.Test.YtfclkkbmgclfgaaDoorCN
import Derived.RegionTactic
import Derived.Laws.Bits64
namespace Go.Proofs.YtfclkkbmgclfgaaDoor
open Go.RowKit
/-- all are noughts -/
def nou (l : List UInt8) : Prop := ∀ x ∈ l, x = 0
instance : DecidablePred nou := fun l => by unfold nou; exact inferInstance
set_option maxRecDepth 8000 in
theorem nou_take {l : List UInt8} {k : Nat} (hk : k < l.length) (h : nou (l.take k)) (hx : l[k] = 0) : nou (l.take (k + 1)) := by
  intro x hm
  rw [List.take_add_one, List.mem_append] at hm
  rcases hm with hm | hm
  · exact h x hm
  · rw [List.getElem?_eq_getElem hk] at hm
    simp at hm
    rw [hm, hx]
set_option maxRecDepth 8000 in
set_option maxHeartbeats 400000 in
theorem noughts_any (A : Option Addr) (n c : Nat) (l : List UInt8) (w : World) (hn : l.length = n) (hr : Rd w A l) (hbig : n ≤ 1000) :
    Calls Tryd.prog 68 #[.slice A n c] w fun e w' => e = .returned (.bool (decide (nou l))) ∧ w = w' := by
  have HN := Lib.hid hn
  have HR := Lib.hid hr
  clear hr hn
  go_enter Tryd.func68, Tryd.ntmps68
  go_wp2_with fail
  go_loop [5, 8] (fun _ i => ∃ k : Nat, k ≤ n ∧ i = .int .i64 k ∧ nou (l.take k)) (fun _ i => n + 1 - (intOf i).toNat)
  case atStart => exact ⟨0, by omega, rfl, fun x hx => by simp at hx⟩
  case round =>
    obtain ⟨k, hk, rfl, hz⟩ := hrel
    have HZ := Lib.hid hz
    clear hz
    by_cases hlt : k < n
    · have hkl : k < l.length := by have := HN.out; omega
      obtain ⟨b, off, rfl, hc⟩ := HR.out k hkl
      have HK := Lib.hid hkl
      obtain ⟨x, hx⟩ : ∃ x, x = l[k]'HK.out := ⟨_, rfl⟩
      rw [← hx] at hc
      have HX := Lib.hid hx
      clear hx hkl
      by_cases hq : x = 0
      · subst hq
        go_wp2
        go_round
        case rel => exact ⟨k + 1, by omega, by go_num, nou_take HK.out HZ.out HX.out.symm⟩
        case measure => simp [intOf]; omega
      · have d0 : ((x.toNat : Int) != 0) = true := by
          have : x.toNat ≠ 0 := fun h => hq (UInt8.toNat_inj.1 h)
          simpa using this
        have HQ := Lib.hid hq
        clear hq
        go_wp2
        go_ret
        refine ⟨?_, rfl⟩
        rw [decide_eq_false (fun h => HQ.out (HX.out ▸ h _ (List.getElem_mem HK.out)))]
        rfl
    · obtain rfl : k = n := by omega
      go_wp2
      go_ret
      refine ⟨?_, rfl⟩
      have := HZ.out
      rw [List.take_of_length_le (by have := HN.out; omega)] at this
      rw [decide_eq_true this]
      rfl
set_option maxRecDepth 8000 in
theorem made0 (n : Nat) : madeCells #[.int .u8 0] n = (bv (List.replicate n 0)).toArray := by
  apply Array.ext
  · simp [madeCells, bv]
  · intro i h1 h2
    simp [madeCells, bv, Nat.mod_one]
set_option maxRecDepth 8000 in
theorem run_mk0 (n : Nat) (h : n ≤ 100000) (W : World) : (Instr.makeSlice 31 (.int .i64 (n : Int)) (.int .i64 (n : Int))).run Tryd.prog W = .ok (.slice (some ⟨W.heap.size, 0, none⟩) n n) (W.alloc (.cells (bv (List.replicate n 0)).toArray 5)) := by
  rw [← made0]
  exact run_make_row' 31 5 (.int .u8 0) 1 Tryd.underlying31 infoU8 rfl .i64 .i64 n (by omega) (by omega) W
set_option maxRecDepth 8000 in
theorem rd_blk {w : World} {D : Nat} {t : TypeId} {l : List UInt8} (h : Blk w D t (bv l).toArray) : Rd w (some ⟨D, 0, none⟩) l := by
  intro j hj
  refine ⟨D, 0, rfl, ?_⟩
  rw [h.cell, Nat.zero_add, List.getElem?_toArray, bv_get, List.getElem?_eq_getElem hj]
  rfl
theorem nou_rep (n : Nat) : nou (List.replicate n 0) := fun _ hx => (List.mem_replicate.1 hx).2
set_option maxRecDepth 8000 in
set_option maxHeartbeats 800000 in
theorem blank_w (g B : Nat) (t : TypeId) (n : Nat) (d : List UInt8) (k : Nat) (w : World) (hW : WrAt w g B t n d) (hk0 : 0 < k) (hk : k ≤ 1000) (hfit : d.length + k ≤ n) :
    Calls Tryd.prog 56 #[wri g, .int .i64 (k : Int)] w fun e w' => e = .returned (.tuple #[]) ∧ WrAt w' g B t n (d ++ List.replicate k 0) ∧ Fr (fun j => j = g ∨ j = B) w w' := by
  have hmk := run_mk0 k (by omega)
  have hm := met_w
  have HW := Lib.hid hW
  have HB := Lib.hid (Blk.new w 5 (bv (List.replicate k 0)).toArray)
  have hl1 := hW.lt
  have hl2 := hW.ltB
  have hle : (List.replicate k (0 : UInt8)).length = k := List.length_replicate
  have hz : decide (nou (List.replicate k 0)) = true := decide_eq_true (nou_rep k)
  have HL := Lib.hid hle
  clear hW hle
  go_enter Tryd.func56, Tryd.ntmps56
  go_wp2_with (first
    | (go_at_call 91; refine (wpass g B t n d (List.replicate k 0) _ k _ _ (HW.out.below ((Below.refl _ _).alloc (Nat.le_refl _) _)) HL.out hk0 (rd_blk HB.out) hfit (by intro a h; injection h with h; subst h; show w.heap.size ≠ g; omega)).mono ?_; rintro e w1 ⟨rfl, hw1, hf1⟩; have hrd1 := (rd_blk HB.out).fr hf1 (by intro a h _; injection h with h; subst h; show ¬ (w.heap.size = g ∨ w.heap.size = B); omega); have H1 := Lib.hid hw1; have H2 := Lib.hid hf1; have H3 := Lib.hid hrd1; clear hw1 hf1 hrd1)
    | (go_at_call 68; refine (noughts_any _ k _ (List.replicate k 0) _ HL.out H3.out hk).mono ?_; rintro e w2 ⟨rfl, rfl⟩))
  go_end0
  exact ⟨rfl, H1.out, ((Fr.refl _ w).alloc _).trans H2.out⟩
set_option maxRecDepth 8000 in
set_option maxHeartbeats 800000 in
theorem blank_r (g s : Nat) (l : List UInt8) (k : Nat) (w : World) (hW : RdAt w g s l) (hk : k ≤ 1000) (hfit : k ≤ l.length) (hn : nou (l.take k)) :
    Calls Tryd.prog 56 #[rdi g, .int .i64 (k : Int)] w fun e w' => e = .returned (.tuple #[]) ∧ RdAt w' g s (l.drop k) ∧ Fr (fun j => j = g) w w' := by
  have hmk := run_mk0 k (by omega)
  have hm := met_r
  have HW := Lib.hid hW
  have HB := Lib.hid (Blk.new w 5 (bv (List.replicate k 0)).toArray)
  have hl1 := hW.lt
  have hl2 := hW.lts
  have hle : (l.take k).length = k := by rw [List.length_take]; omega
  have hz : decide (nou (l.take k)) = true := decide_eq_true hn
  have HL := Lib.hid hle
  clear hW hle hn
  go_enter Tryd.func56, Tryd.ntmps56
  go_wp2_with (first
    | (go_at_call 93; refine (rpass g s w.heap.size _ l (bv (List.replicate k 0)) 0 k _ _ (HW.out.below ((Below.refl _ _).alloc (Nat.le_refl _) _)) HB.out hfit (by rw [bv_length, List.length_replicate]; omega) (by omega) (by omega)).mono ?_; rintro e w1 ⟨rfl, hw1, hb1, hf1⟩; have H1 := Lib.hid hw1; have H2 := Lib.hid hf1; have H3 := Lib.hid (rd_spl hb1); clear hw1 hf1 hb1)
    | (go_at_call 68; refine (noughts_any _ k _ (l.take k) _ HL.out H3.out hk).mono ?_; rintro e w2 ⟨rfl, rfl⟩))
  go_end0
  exact ⟨rfl, H1.out, ((Fr.refl _ w).alloc _).then_ H2.out (fun j hj h => h.elim id (fun h => by omega))⟩
set_option maxRecDepth 8000 in
set_option maxHeartbeats 800000 in
theorem blank_no (g s : Nat) (l : List UInt8) (k : Nat) (w : World) (hW : RdAt w g s l) (hk : k ≤ 1000) (hfit : k ≤ l.length) (hn : ¬ nou (l.take k)) :
    Calls Tryd.prog 56 #[rdi g, .int .i64 (k : Int)] w fun e w' => e = .panicked (erc 151) ∧ Fr (fun j => j = g) w w' := by
  have hmk := run_mk0 k (by omega)
  have hm := met_r
  have HW := Lib.hid hW
  have HB := Lib.hid (Blk.new w 5 (bv (List.replicate k 0)).toArray)
  have hl1 := hW.lt
  have hl2 := hW.lts
  have hle : (l.take k).length = k := by rw [List.length_take]; omega
  have hz : decide (nou (l.take k)) = false := decide_eq_false hn
  have HL := Lib.hid hle
  clear hW hle hn
  go_enter Tryd.func56, Tryd.ntmps56
  go_wp2_with (first
    | (go_at_call 93; refine (rpass g s w.heap.size _ l (bv (List.replicate k 0)) 0 k _ _ (HW.out.below ((Below.refl _ _).alloc (Nat.le_refl _) _)) HB.out hfit (by rw [bv_length, List.length_replicate]; omega) (by omega) (by omega)).mono ?_; rintro e w1 ⟨rfl, hw1, hb1, hf1⟩; have H1 := Lib.hid hw1; have H2 := Lib.hid hf1; have H3 := Lib.hid (rd_spl hb1); clear hw1 hf1 hb1)
    | (go_at_call 68; refine (noughts_any _ k _ (l.take k) _ HL.out H3.out hk).mono ?_; rintro e w2 ⟨rfl, rfl⟩))
  exact ⟨rfl, rfl, ((Fr.refl _ w).alloc _).then_ H2.out (fun j hj h => h.elim id (fun h => by omega))⟩
end Go.Proofs.YtfclkkbmgclfgaaDoor
namespace Go.Proofs.YtfclkkbmgclfgaaDoor
open Go.RowKit
/-- a number with its sign as one from 0 on -/
def un (v : Int) : Nat := (v % 18446744073709551616).toNat
set_option maxRecDepth 8000 in
theorem un_lt (v : Int) : un v < 18446744073709551616 := by unfold un; omega
/-- back -/
def sg (u : Nat) : Int := if u < 9223372036854775808 then (u : Int) else (u : Int) - 18446744073709551616
set_option maxRecDepth 8000 in
theorem sg_un {v : Int} (h0 : -9223372036854775808 ≤ v) (h1 : v ≤ 9223372036854775807) : sg (un v) = v := by unfold sg un; split <;> omega
set_option maxRecDepth 8000 in
theorem un_sg {u : Nat} (h : u < 18446744073709551616) : un (sg u) = u := by unfold sg un; split <;> omega
set_option maxRecDepth 8000 in
theorem sg_in (u : Nat) (h : u < 18446744073709551616) : -9223372036854775808 ≤ sg u ∧ sg u ≤ 9223372036854775807 := by unfold sg; split <;> omega
set_option maxRecDepth 8000 in
theorem wrap_un (v : Int) : IntKind.u64.wrap v = (un v : Int) := by
  simp only [IntKind.wrap, IntKind.bits, IntKind.signed, un]
  simp
  omega
set_option maxRecDepth 8000 in
theorem high_un (v : Int) : wrap64 (IntKind.u64.wrap v / 4294967296) = ((un v / 4294967296 : Nat) : Int) := by
  rw [wrap_un]
  have := un_lt v
  unfold wrap64
  omega
set_option maxRecDepth 8000 in
theorem ofInt_un (v : Int) : (BitVec.ofInt 64 v).toNat = un v := by
  rw [BitVec.toNat_ofInt]
  rfl
set_option maxRecDepth 8000 in
theorem low_un (v : Int) : bits BinOp.and .i64 v 4294967295 = ((un v % 4294967296 : Nat) : Int) := by
  show IntKind.i64.wrap ((BitVec.ofInt 64 v &&& BitVec.ofInt 64 4294967295).toNat : Int) = _
  rw [BitVec.toNat_and, ofInt_un, show (BitVec.ofInt 64 4294967295).toNat = 2 ^ 32 - 1 by decide, Nat.and_two_pow_sub_one_eq_mod]
  have := un_lt v
  rw [show (2 : Nat) ^ 32 = 4294967296 by decide]
  exact wrap_i64_of _ (by omega) (by omega)
set_option maxRecDepth 8000 in
theorem back_un (L U : Nat) (hL : L < 4294967296) (hU : U < 4294967296) : bits BinOp.or .i64 (wrap64 ((U : Int) * 4294967296)) (L : Int) = sg (L + 4294967296 * U) := by
  show IntKind.i64.wrap ((BitVec.ofInt 64 (wrap64 ((U : Int) * 4294967296)) ||| BitVec.ofInt 64 (L : Int)).toNat : Int) = _
  have h1 : un (wrap64 ((U : Int) * 4294967296)) = U * 4294967296 := by unfold un wrap64; omega
  have h2 : un (L : Int) = L := by unfold un; omega
  rw [BitVec.toNat_or, ofInt_un, ofInt_un, h1, h2, nat_join 32 _ _ (by omega) (by omega)]
  simp only [IntKind.wrap, IntKind.bits, IntKind.signed, sg]
  simp
  split <;> omega
set_option maxRecDepth 8000 in
theorem bytesLE_cat (a b N : Nat) : bytesLE (a + b) N = bytesLE a N ++ bytesLE b (N / 256 ^ a) := by
  induction a generalizing N with
  | zero => simp [bytesLE]
  | succ a ih =>
    rw [show a + 1 + b = (a + b) + 1 by omega]
    simp only [bytesLE, List.cons_append]
    rw [ih, Nat.div_div_eq_div_mul, Nat.pow_succ, Nat.mul_comm 256]
set_option maxRecDepth 8000 in
theorem bytesLE_mod (k N : Nat) : bytesLE k (N % 256 ^ k) = bytesLE k N := by
  induction k generalizing N with
  | zero => rfl
  | succ k ih =>
    have h1 : N % 256 ^ (k + 1) % 256 = N % 256 := Nat.mod_mod_of_dvd _ ⟨256 ^ k, by rw [Nat.pow_succ, Nat.mul_comm]⟩
    have h2 : N % 256 ^ (k + 1) / 256 = N / 256 % 256 ^ k := by
      rw [Nat.pow_succ, Nat.mul_comm, Nat.mod_mul_right_div_self]
    simp only [bytesLE]
    rw [h1, h2, ih]
set_option maxRecDepth 8000 in
theorem bytes8 (u : Nat) : bytesLE 4 (u % 4294967296) ++ bytesLE 4 (u / 4294967296) = bytesLE 8 u := by
  rw [show (8 : Nat) = 4 + 4 from rfl, bytesLE_cat, show (4294967296 : Nat) = 256 ^ 4 by decide, bytesLE_mod]
set_option maxRecDepth 8000 in
theorem numLE_cat (a b : List UInt8) : numLE (a ++ b) = numLE a + 256 ^ a.length * numLE b := by
  induction a with
  | nil => simp [numLE]
  | cons x a ih =>
    simp only [List.cons_append, numLE, ih, List.length_cons, Nat.pow_succ]
    rw [Nat.mul_add, Nat.mul_comm (256 ^ a.length) 256, Nat.mul_assoc, Nat.add_assoc]
set_option maxRecDepth 8000 in
set_option maxHeartbeats 400000 in
theorem signed_w (g B K i : Nat) (t tk : TypeId) (n : Nat) (d : List UInt8) (v : Int) (cs : Array Value) (w : World) (hW : WrAt w g B t n d) (hK : Blk w K tk cs) (hv : cs[i]? = some (.int .i64 v)) (hlo : -9223372036854775808 ≤ v) (hhi : v ≤ 9223372036854775807) (hfit : d.length + 8 ≤ n) (hg : K ≠ g) (hB : K ≠ B) :
    Calls Tryd.prog 51 #[wri g, .pointer (some ⟨K, i, none⟩)] w fun e w' => e = .returned (.tuple #[]) ∧ WrAt w' g B t n (d ++ bytesLE 8 (un v)) ∧ Blk w' K tk cs ∧ Fr (fun j => j = g ∨ j = B ∨ j = K) w w' := by
  have hc0 := (hK.cell i).trans hv
  have hc1 := ((hK.alloc (.cells #[.int .i64 0] 2)).cell i).trans hv
  have hc2 := (((hK.alloc (.cells #[.int .i64 0] 2)).alloc (.cells #[.int .i64 0] 2)).cell i).trans hv
  have hlow := low_un v
  have hhigh := high_un v
  have hul := un_lt v
  have hb8 := bytes8 (un v)
  have hsv := sg_un hlo hhi
  obtain ⟨L, hL⟩ : ∃ L : Nat, L = un v % 4294967296 := ⟨_, rfl⟩
  obtain ⟨U, hU⟩ : ∃ U : Nat, U = un v / 4294967296 := ⟨_, rfl⟩
  have hL1 : L < 4294967296 := by omega
  have hU1 : U < 4294967296 := by omega
  have hLU : sg (L + 4294967296 * U) = v := by rw [hL, hU, show un v % 4294967296 + 4294967296 * (un v / 4294967296) = un v by omega]; exact hsv
  rw [← hL] at hlow hb8
  rw [← hU] at hhigh hb8
  have hback := back_un L U hL1 hU1
  rw [hLU] at hback
  have HW := Lib.hid hW
  have HK := Lib.hid hK
  have HV := Lib.hid hv
  have HN := Lib.hid (And.intro hg hB)
  have H8 := Lib.hid hb8
  have HLU := Lib.hid (show L < 256 ^ 4 ∧ U < 256 ^ 4 by omega)
  have hl1 := hW.lt
  have hl2 := hW.ltB
  have hl3 := hK.lt
  clear hW hK hv hlo hhi hul hb8 hsv hL hU hL1 hU1 hLU
  go_enter Tryd.func51, Tryd.ntmps51
  go_wp2
  go_region
  clear hlow hhigh hc0 hc1 hc2
  · obtain ⟨W, hWd⟩ : ∃ W, W = ((w.alloc (.cells #[.int .i64 (L : Int)] 2)).alloc (.cells #[.int .i64 (U : Int)] 2)).drew := ⟨_, rfl⟩
    have hb0 : Below w.heap.size w W := by rw [hWd]; exact ((((Below.refl w.heap.size w).alloc (Nat.le_refl _) _).alloc (by simp) _)).drew
    have hbl : Blk W w.heap.size 2 #[.int .i64 (L : Int)] := by rw [hWd]; exact Blk.drew ((Blk.new w 2 #[.int .i64 (L : Int)]).alloc (.cells #[.int .i64 (U : Int)] 2))
    have hbh : Blk W (w.heap.size + 1) 2 #[.int .i64 (U : Int)] := by rw [hWd]; exact Blk.drew ((by have h := Blk.new (w.alloc (.cells #[.int .i64 (L : Int)] 2)) 2 #[.int .i64 (U : Int)]; simpa using h))
    have hsz : W.heap.size = w.heap.size + 2 := by rw [hWd]; simp
    rw [← hWd]
    clear hWd
    obtain ⟨p, hp⟩ : ∃ p, p = w.heap.size := ⟨_, rfl⟩
    obtain ⟨q, hq⟩ : ∃ q, q = w.heap.size + 1 := ⟨_, rfl⟩
    rw [← hq] at hbh ⊢
    rw [← hp] at hbl ⊢
    have hpq : p ≠ q ∧ p ≠ g ∧ p ≠ B ∧ p ≠ K ∧ q ≠ g ∧ q ≠ B ∧ q ≠ K := by omega
    have hpz : w.heap.size ≤ p ∧ w.heap.size ≤ q ∧ p < W.heap.size ∧ q < W.heap.size := by omega
    clear hp hq
    have PQ := Lib.hid hpq
    have PZ := Lib.hid hpz
    obtain ⟨e1, e2, e3, e4, e5, e6, e7⟩ := hpq
    clear hpz
    have B0 := Lib.hid hb0
    have L0 := Lib.hid hbl
    have U0 := Lib.hid hbh
    clear hb0 hbl hbh
    have hKW := Lib.hid (And.intro hl1 (And.intro hl2 hl3))
    have M0 := Lib.hid True.intro
    go_wp2_with (first
      | (go_at_call 48; clear M0; refine (numberL_w4 g B p 0 t 2 n d L #[.int .i64 (L : Int)] _ (HW.out.below B0.out) L0.out rfl HLU.out.1 (by omega) (by omega) (by omega)).mono ?_; rintro e w1 ⟨rfl, hw1, hl1', hf1⟩; have hu1 := (hf1.block q (by have := PZ.out; omega) (by rintro (h | h | h) <;> omega)).trans U0.out; have hk1 := (hf1.block K (by omega) (by rintro (h | h | h) <;> omega)).trans (HK.out.below B0.out HK.out.lt); have W1 := Lib.hid hw1; have L1 := Lib.hid hl1'; have U1 := Lib.hid hu1; have K1 := Lib.hid hk1; have F1 := Lib.hid hf1; clear hw1 hl1' hu1 hk1 hf1)
      | (go_at_call 48; refine (numberL_w4 g B q 0 t 2 n (d ++ bytesLE 4 L) U #[.int .i64 (U : Int)] _ W1.out U1.out rfl HLU.out.2 (by rw [List.length_append, bytesLE_length]; omega) (by omega) (by omega)).mono ?_; rintro e w2 ⟨rfl, hw2, hu2, hf2⟩; have hl2' := (hf2.block p (by have := Blk.lt L1.out; omega) (by rintro (h | h | h) <;> omega)).trans L1.out; have hk2 := (hf2.block K (by have := Blk.lt K1.out; omega) (by rintro (h | h | h) <;> omega)).trans K1.out; have hc1 := Blk.cell hl2' 0; have hc2 := hu2.cell 0; have hc3 := (Blk.cell hk2 i).trans HV.out; have hz3 := Blk.frozen hk2 i; simp at hc1 hc2; have W2 := Lib.hid hw2; have K2 := Lib.hid hk2; have F2 := Lib.hid hf2; clear hw2 hu2 hl2' hk2 hf2))
    go_end0
    have hnn : ∀ j, j < w.heap.size → ¬ (j = p ∨ j = q) := by have := PZ.out; omega
    have h3 := Blk.set_ K2.out i (.int .i64 v)
    rw [set_same HV.out] at h3
    have hf := ((Fr.of_below (S := fun j => j = g ∨ j = B ∨ j = K) B0.out).then_ F1.out (fun j hj h => h.elim .inl (fun h => h.elim (fun h => .inr (.inl h)) (fun h => by have := hnn j hj; omega)))).then_ F2.out (fun j hj h => h.elim .inl (fun h => h.elim (fun h => .inr (.inl h)) (fun h => by have := hnn j hj; omega)))
    have hf' := hf.setCell (p := ⟨K, i, none⟩) (fun _ => .inr (.inr rfl)) (.int .i64 v)
    have h1 := W2.out
    rw [List.append_assoc, H8.out] at h1
    exact ⟨rfl, h1.keep (Below.heap_setCell _ _ _ _ (fun e => HN.out.1 e.symm)) (Below.heap_setCell _ _ _ _ (fun e => HN.out.2 e.symm)), h3, hf'⟩
  · obtain ⟨W, hWd⟩ : ∃ W, W = ((w.alloc (.cells #[.int .i64 (U : Int)] 2)).alloc (.cells #[.int .i64 (L : Int)] 2)).drew := ⟨_, rfl⟩
    have hb0 : Below w.heap.size w W := by rw [hWd]; exact ((((Below.refl w.heap.size w).alloc (Nat.le_refl _) _).alloc (by simp) _)).drew
    have hbl : Blk W (w.heap.size + 1) 2 #[.int .i64 (L : Int)] := by rw [hWd]; exact Blk.drew ((by have h := Blk.new (w.alloc (.cells #[.int .i64 (U : Int)] 2)) 2 #[.int .i64 (L : Int)]; simpa using h))
    have hbh : Blk W w.heap.size 2 #[.int .i64 (U : Int)] := by rw [hWd]; exact Blk.drew ((Blk.new w 2 #[.int .i64 (U : Int)]).alloc (.cells #[.int .i64 (L : Int)] 2))
    have hsz : W.heap.size = w.heap.size + 2 := by rw [hWd]; simp
    rw [← hWd]
    clear hWd
    obtain ⟨p, hp⟩ : ∃ p, p = w.heap.size := ⟨_, rfl⟩
    obtain ⟨q, hq⟩ : ∃ q, q = w.heap.size + 1 := ⟨_, rfl⟩
    rw [← hq] at hbl ⊢
    rw [← hp] at hbh ⊢
    have hpq : p ≠ q ∧ p ≠ g ∧ p ≠ B ∧ p ≠ K ∧ q ≠ g ∧ q ≠ B ∧ q ≠ K := by omega
    have hpz : w.heap.size ≤ p ∧ w.heap.size ≤ q ∧ p < W.heap.size ∧ q < W.heap.size := by omega
    clear hp hq
    have PQ := Lib.hid hpq
    have PZ := Lib.hid hpz
    obtain ⟨e1, e2, e3, e4, e5, e6, e7⟩ := hpq
    clear hpz
    have B0 := Lib.hid hb0
    have L0 := Lib.hid hbl
    have U0 := Lib.hid hbh
    clear hb0 hbl hbh
    have hKW := Lib.hid (And.intro hl1 (And.intro hl2 hl3))
    have M0 := Lib.hid True.intro
    go_wp2_with (first
      | (go_at_call 48; clear M0; refine (numberL_w4 g B q 0 t 2 n d L #[.int .i64 (L : Int)] _ (HW.out.below B0.out) L0.out rfl HLU.out.1 (by omega) (by omega) (by omega)).mono ?_; rintro e w1 ⟨rfl, hw1, hl1', hf1⟩; have hu1 := (hf1.block p (by have := PZ.out; omega) (by rintro (h | h | h) <;> omega)).trans U0.out; have hk1 := (hf1.block K (by omega) (by rintro (h | h | h) <;> omega)).trans (HK.out.below B0.out HK.out.lt); have W1 := Lib.hid hw1; have L1 := Lib.hid hl1'; have U1 := Lib.hid hu1; have K1 := Lib.hid hk1; have F1 := Lib.hid hf1; clear hw1 hl1' hu1 hk1 hf1)
      | (go_at_call 48; refine (numberL_w4 g B p 0 t 2 n (d ++ bytesLE 4 L) U #[.int .i64 (U : Int)] _ W1.out U1.out rfl HLU.out.2 (by rw [List.length_append, bytesLE_length]; omega) (by omega) (by omega)).mono ?_; rintro e w2 ⟨rfl, hw2, hu2, hf2⟩; have hl2' := (hf2.block q (by have := Blk.lt L1.out; omega) (by rintro (h | h | h) <;> omega)).trans L1.out; have hk2 := (hf2.block K (by have := Blk.lt K1.out; omega) (by rintro (h | h | h) <;> omega)).trans K1.out; have hc1 := Blk.cell hl2' 0; have hc2 := hu2.cell 0; have hc3 := (Blk.cell hk2 i).trans HV.out; have hz3 := Blk.frozen hk2 i; simp at hc1 hc2; have W2 := Lib.hid hw2; have K2 := Lib.hid hk2; have F2 := Lib.hid hf2; clear hw2 hu2 hl2' hk2 hf2))
    go_end0
    have hnn : ∀ j, j < w.heap.size → ¬ (j = p ∨ j = q) := by have := PZ.out; omega
    have h3 := Blk.set_ K2.out i (.int .i64 v)
    rw [set_same HV.out] at h3
    have hf := ((Fr.of_below (S := fun j => j = g ∨ j = B ∨ j = K) B0.out).then_ F1.out (fun j hj h => h.elim .inl (fun h => h.elim (fun h => .inr (.inl h)) (fun h => by have := hnn j hj; omega)))).then_ F2.out (fun j hj h => h.elim .inl (fun h => h.elim (fun h => .inr (.inl h)) (fun h => by have := hnn j hj; omega)))
    have hf' := hf.setCell (p := ⟨K, i, none⟩) (fun _ => .inr (.inr rfl)) (.int .i64 v)
    have h1 := W2.out
    rw [List.append_assoc, H8.out] at h1
    exact ⟨rfl, h1.keep (Below.heap_setCell _ _ _ _ (fun e => HN.out.1 e.symm)) (Below.heap_setCell _ _ _ _ (fun e => HN.out.2 e.symm)), h3, hf'⟩
end Go.Proofs.YtfclkkbmgclfgaaDoor
namespace Go.Proofs.YtfclkkbmgclfgaaDoor
open Go.RowKit
set_option maxRecDepth 8000 in
theorem num8 (l : List UInt8) (h : 8 ≤ l.length) : numLE (l.take 4) + 4294967296 * numLE ((l.drop 4).take 4) = numLE (l.take 8) := by
  have e : l.take 8 = l.take 4 ++ (l.drop 4).take 4 := by rw [show (8 : Nat) = 4 + 4 from rfl, List.take_add]
  rw [e, numLE_cat, show (l.take 4).length = 4 by rw [List.length_take]; omega]
theorem RdAt.below' {w w' : World} {g s : Nat} {l : List UInt8} (h : RdAt w g s l) (hb : Below w.heap.size w w') : RdAt w' g s l := h.below hb
set_option maxRecDepth 8000 in
set_option maxHeartbeats 400000 in
theorem signed_r (g s K i : Nat) (tk : TypeId) (l : List UInt8) (cs : Array Value) (w : World) (hW : RdAt w g s l) (hK : Blk w K tk cs) (hv : cs[i]? = some (.int .i64 0)) (hkl : 8 ≤ l.length) (hg : K ≠ g) (hs : K ≠ s) :
    Calls Tryd.prog 51 #[rdi g, .pointer (some ⟨K, i, none⟩)] w fun e w' => e = .returned (.tuple #[]) ∧ RdAt w' g s (l.drop 8) ∧ Blk w' K tk (cs.setIfInBounds i (.int .i64 (sg (numLE (l.take 8))))) ∧ Fr (fun j => j = g ∨ j = K) w w' := by
  have hc0 := (hK.cell i).trans hv
  have hc1 := ((hK.alloc (.cells #[.int .i64 0] 2)).cell i).trans hv
  have hc2 := (((hK.alloc (.cells #[.int .i64 0] 2)).alloc (.cells #[.int .i64 0] 2)).cell i).trans hv
  have hlow : bits BinOp.and .i64 0 4294967295 = 0 := low_un 0
  have hhigh : wrap64 (IntKind.u64.wrap 0 / 4294967296) = 0 := high_un 0
  have hw0 : IntKind.u64.wrap 0 = 0 := wrap_un 0
  have HW := Lib.hid hW
  have HK := Lib.hid hK
  have HV := Lib.hid hv
  have hback := back_un (numLE (l.take 4)) (numLE ((l.drop 4).take 4)) (by have := numLE_lt (l.take 4); rw [show (l.take 4).length = 4 by rw [List.length_take]; omega] at this; omega) (by have := numLE_lt ((l.drop 4).take 4); rw [show ((l.drop 4).take 4).length = 4 by rw [List.length_take, List.length_drop]; omega] at this; omega)
  rw [num8 l hkl] at hback
  have HN := Lib.hid (And.intro hg hs)
  have hl1 := hW.lt
  have hl2 := hW.lts
  have hl3 := hK.lt
  clear hW hK hv
  go_enter Tryd.func51, Tryd.ntmps51
  go_wp2
  go_region
  all_goals clear hlow hhigh hw0 hc0 hc1 hc2
  · obtain ⟨W, hWd⟩ : ∃ W, W = ((w.alloc (.cells #[.int .i64 0] 2)).alloc (.cells #[.int .i64 0] 2)).drew := ⟨_, rfl⟩
    have hb0 : Below w.heap.size w W := by rw [hWd]; exact ((((Below.refl w.heap.size w).alloc (Nat.le_refl _) _).alloc (by simp) _)).drew
    have hbl : Blk W w.heap.size 2 #[.int .i64 0] := by rw [hWd]; exact Blk.drew ((Blk.new w 2 #[.int .i64 0]).alloc (.cells #[.int .i64 0] 2))
    have hbh : Blk W (w.heap.size + 1) 2 #[.int .i64 0] := by rw [hWd]; exact Blk.drew ((by have h := Blk.new (w.alloc (.cells #[.int .i64 0] 2)) 2 #[.int .i64 0]; simpa using h))
    have hsz : W.heap.size = w.heap.size + 2 := by rw [hWd]; simp
    rw [← hWd]
    clear hWd
    obtain ⟨p, hp⟩ : ∃ p, p = w.heap.size := ⟨_, rfl⟩
    obtain ⟨q, hq⟩ : ∃ q, q = w.heap.size + 1 := ⟨_, rfl⟩
    rw [← hq] at hbh ⊢
    rw [← hp] at hbl ⊢
    have hpq : p ≠ q ∧ p ≠ g ∧ p ≠ s ∧ p ≠ K ∧ q ≠ g ∧ q ≠ s ∧ q ≠ K := by omega
    have hpz : w.heap.size ≤ p ∧ w.heap.size ≤ q ∧ p < W.heap.size ∧ q < W.heap.size := by omega
    clear hp hq
    have PZ := Lib.hid hpz
    obtain ⟨e1, e2, e3, e4, e5, e6, e7⟩ := hpq
    clear hpz
    have B0 := Lib.hid hb0
    have L0 := Lib.hid hbl
    have U0 := Lib.hid hbh
    clear hb0 hbl hbh
    have M0 := Lib.hid True.intro
    go_wp2_with (first
      | (go_at_call 48; clear M0; refine (numberL_r4 g s p 0 2 l #[.int .i64 0] _ (HW.out.below' B0.out) L0.out rfl (by omega) (by omega) (by omega)).mono ?_; rintro e w1 ⟨rfl, hw1, hl1', hf1⟩; have hu1 := (hf1.block q (by have := PZ.out; omega) (by rintro (h | h) <;> omega)).trans U0.out; have hk1 := (hf1.block K (by omega) (by rintro (h | h) <;> omega)).trans (HK.out.below B0.out HK.out.lt); have W1 := Lib.hid hw1; have L1 := Lib.hid hl1'; have U1 := Lib.hid hu1; have K1 := Lib.hid hk1; have F1 := Lib.hid hf1; clear hw1 hl1' hu1 hk1 hf1)
      | (go_at_call 48; refine (numberL_r4 g s q 0 2 (l.drop 4) #[.int .i64 0] _ W1.out U1.out rfl (by rw [List.length_drop]; omega) (by omega) (by omega)).mono ?_; rintro e w2 ⟨rfl, hw2, hu2, hf2⟩; have hl2' := (hf2.block p (by have := Blk.lt L1.out; omega) (by rintro (h | h) <;> omega)).trans L1.out; have hk2 := (hf2.block K (by have := Blk.lt K1.out; omega) (by rintro (h | h) <;> omega)).trans K1.out; have hc1 := Blk.cell hl2' 0; have hc2 := hu2.cell 0; have hc3 := (Blk.cell hk2 i).trans HV.out; have hz3 := Blk.frozen hk2 i; simp at hc1 hc2; have W2 := Lib.hid hw2; have K2 := Lib.hid hk2; have F2 := Lib.hid hf2; clear hw2 hu2 hl2' hk2 hf2))
    go_end0
    have hnn : ∀ j, j < w.heap.size → ¬ (j = p ∨ j = q) := by have := PZ.out; omega
    have h3 := Blk.set_ K2.out i (.int .i64 (sg (numLE (l.take 8))))
    have hf := ((Fr.of_below (S := fun j => j = g ∨ j = K) B0.out).then_ F1.out (fun j hj h => h.elim .inl (fun h => by have := hnn j hj; omega))).then_ F2.out (fun j hj h => h.elim .inl (fun h => by have := hnn j hj; omega))
    have hf' := hf.setCell (p := ⟨K, i, none⟩) (fun _ => .inr rfl) (.int .i64 (sg (numLE (l.take 8))))
    have h1 := W2.out
    rw [List.drop_drop] at h1
    exact ⟨rfl, h1.fr ((Fr.refl (fun j => j = K) _).setCell (p := ⟨K, i, none⟩) (fun _ => rfl) _) (fun e => HN.out.1 e.symm) (fun e => HN.out.2 e.symm), h3, hf'⟩
  · obtain ⟨W, hWd⟩ : ∃ W, W = ((w.alloc (.cells #[.int .i64 0] 2)).alloc (.cells #[.int .i64 0] 2)).drew := ⟨_, rfl⟩
    have hb0 : Below w.heap.size w W := by rw [hWd]; exact ((((Below.refl w.heap.size w).alloc (Nat.le_refl _) _).alloc (by simp) _)).drew
    have hbl : Blk W (w.heap.size + 1) 2 #[.int .i64 0] := by rw [hWd]; exact Blk.drew ((by have h := Blk.new (w.alloc (.cells #[.int .i64 0] 2)) 2 #[.int .i64 0]; simpa using h))
    have hbh : Blk W w.heap.size 2 #[.int .i64 0] := by rw [hWd]; exact Blk.drew ((Blk.new w 2 #[.int .i64 0]).alloc (.cells #[.int .i64 0] 2))
    have hsz : W.heap.size = w.heap.size + 2 := by rw [hWd]; simp
    rw [← hWd]
    clear hWd
    obtain ⟨p, hp⟩ : ∃ p, p = w.heap.size := ⟨_, rfl⟩
    obtain ⟨q, hq⟩ : ∃ q, q = w.heap.size + 1 := ⟨_, rfl⟩
    rw [← hq] at hbl ⊢
    rw [← hp] at hbh ⊢
    have hpq : p ≠ q ∧ p ≠ g ∧ p ≠ s ∧ p ≠ K ∧ q ≠ g ∧ q ≠ s ∧ q ≠ K := by omega
    have hpz : w.heap.size ≤ p ∧ w.heap.size ≤ q ∧ p < W.heap.size ∧ q < W.heap.size := by omega
    clear hp hq
    have PZ := Lib.hid hpz
    obtain ⟨e1, e2, e3, e4, e5, e6, e7⟩ := hpq
    clear hpz
    have B0 := Lib.hid hb0
    have L0 := Lib.hid hbl
    have U0 := Lib.hid hbh
    clear hb0 hbl hbh
    have M0 := Lib.hid True.intro
    go_wp2_with (first
      | (go_at_call 48; clear M0; refine (numberL_r4 g s q 0 2 l #[.int .i64 0] _ (HW.out.below' B0.out) L0.out rfl (by omega) (by omega) (by omega)).mono ?_; rintro e w1 ⟨rfl, hw1, hl1', hf1⟩; have hu1 := (hf1.block p (by have := PZ.out; omega) (by rintro (h | h) <;> omega)).trans U0.out; have hk1 := (hf1.block K (by omega) (by rintro (h | h) <;> omega)).trans (HK.out.below B0.out HK.out.lt); have W1 := Lib.hid hw1; have L1 := Lib.hid hl1'; have U1 := Lib.hid hu1; have K1 := Lib.hid hk1; have F1 := Lib.hid hf1; clear hw1 hl1' hu1 hk1 hf1)
      | (go_at_call 48; refine (numberL_r4 g s p 0 2 (l.drop 4) #[.int .i64 0] _ W1.out U1.out rfl (by rw [List.length_drop]; omega) (by omega) (by omega)).mono ?_; rintro e w2 ⟨rfl, hw2, hu2, hf2⟩; have hl2' := (hf2.block q (by have := Blk.lt L1.out; omega) (by rintro (h | h) <;> omega)).trans L1.out; have hk2 := (hf2.block K (by have := Blk.lt K1.out; omega) (by rintro (h | h) <;> omega)).trans K1.out; have hc1 := Blk.cell hl2' 0; have hc2 := hu2.cell 0; have hc3 := (Blk.cell hk2 i).trans HV.out; have hz3 := Blk.frozen hk2 i; simp at hc1 hc2; have W2 := Lib.hid hw2; have K2 := Lib.hid hk2; have F2 := Lib.hid hf2; clear hw2 hu2 hl2' hk2 hf2))
    go_end0
    have hnn : ∀ j, j < w.heap.size → ¬ (j = p ∨ j = q) := by have := PZ.out; omega
    have h3 := Blk.set_ K2.out i (.int .i64 (sg (numLE (l.take 8))))
    have hf := ((Fr.of_below (S := fun j => j = g ∨ j = K) B0.out).then_ F1.out (fun j hj h => h.elim .inl (fun h => by have := hnn j hj; omega))).then_ F2.out (fun j hj h => h.elim .inl (fun h => by have := hnn j hj; omega))
    have hf' := hf.setCell (p := ⟨K, i, none⟩) (fun _ => .inr rfl) (.int .i64 (sg (numLE (l.take 8))))
    have h1 := W2.out
    rw [List.drop_drop] at h1
    exact ⟨rfl, h1.fr ((Fr.refl (fun j => j = K) _).setCell (p := ⟨K, i, none⟩) (fun _ => rfl) _) (fun e => HN.out.1 e.symm) (fun e => HN.out.2 e.symm), h3, hf'⟩
set_option maxRecDepth 8000 in
set_option maxHeartbeats 400000 in
theorem signed_noA (g s K i : Nat) (tk : TypeId) (l : List UInt8) (cs : Array Value) (w : World) (hW : RdAt w g s l) (hK : Blk w K tk cs) (hv : cs[i]? = some (.int .i64 0)) (hkl : l.length < 4) :
    Calls Tryd.prog 51 #[rdi g, .pointer (some ⟨K, i, none⟩)] w fun e w' => e = .panicked (erc 151) ∧ Fr (fun j => j = g) w w' := by
  have hc0 := (hK.cell i).trans hv
  have hc1 := ((hK.alloc (.cells #[.int .i64 0] 2)).cell i).trans hv
  have hc2 := (((hK.alloc (.cells #[.int .i64 0] 2)).alloc (.cells #[.int .i64 0] 2)).cell i).trans hv
  have hlow : bits BinOp.and .i64 0 4294967295 = 0 := low_un 0
  have hhigh : wrap64 (IntKind.u64.wrap 0 / 4294967296) = 0 := high_un 0
  have hw0 : IntKind.u64.wrap 0 = 0 := wrap_un 0
  have HW := Lib.hid hW
  have HK := Lib.hid hK
  have HV := Lib.hid hv
  have hl1 := hW.lt
  have hl2 := hW.lts
  have hl3 := hK.lt
  clear hW hK hv
  go_enter Tryd.func51, Tryd.ntmps51
  go_wp2
  go_region
  all_goals clear hlow hhigh hw0 hc0 hc1 hc2
  · obtain ⟨W, hWd⟩ : ∃ W, W = ((w.alloc (.cells #[.int .i64 0] 2)).alloc (.cells #[.int .i64 0] 2)).drew := ⟨_, rfl⟩
    have hb0 : Below w.heap.size w W := by rw [hWd]; exact ((((Below.refl w.heap.size w).alloc (Nat.le_refl _) _).alloc (by simp) _)).drew
    have hbl : Blk W w.heap.size 2 #[.int .i64 0] := by rw [hWd]; exact Blk.drew ((Blk.new w 2 #[.int .i64 0]).alloc (.cells #[.int .i64 0] 2))
    have hbh : Blk W (w.heap.size + 1) 2 #[.int .i64 0] := by rw [hWd]; exact Blk.drew ((by have h := Blk.new (w.alloc (.cells #[.int .i64 0] 2)) 2 #[.int .i64 0]; simpa using h))
    have hsz : W.heap.size = w.heap.size + 2 := by rw [hWd]; simp
    rw [← hWd]
    clear hWd
    obtain ⟨p, hp⟩ : ∃ p, p = w.heap.size := ⟨_, rfl⟩
    obtain ⟨q, hq⟩ : ∃ q, q = w.heap.size + 1 := ⟨_, rfl⟩
    rw [← hq] at hbh ⊢
    rw [← hp] at hbl ⊢
    have hpq : p ≠ q ∧ p ≠ g ∧ p ≠ s ∧ p ≠ K ∧ q ≠ g ∧ q ≠ s ∧ q ≠ K := by omega
    have hpz : w.heap.size ≤ p ∧ w.heap.size ≤ q ∧ p < W.heap.size ∧ q < W.heap.size := by omega
    clear hp hq
    have PZ := Lib.hid hpz
    obtain ⟨e1, e2, e3, e4, e5, e6, e7⟩ := hpq
    clear hpz
    have B0 := Lib.hid hb0
    have L0 := Lib.hid hbl
    have U0 := Lib.hid hbh
    clear hb0 hbl hbh
    have M0 := Lib.hid True.intro
    go_wp2_with (go_at_call 48; refine (numberL_no4 g s p 0 2 l #[.int .i64 0] _ (HW.out.below' B0.out) L0.out rfl hkl).mono ?_; rintro e w1 ⟨rfl, hb1⟩)
    have _hu := U0.out
    exact ⟨rfl, rfl, (Fr.of_below (S := fun j => j = g) B0.out).below hb1⟩
  · obtain ⟨W, hWd⟩ : ∃ W, W = ((w.alloc (.cells #[.int .i64 0] 2)).alloc (.cells #[.int .i64 0] 2)).drew := ⟨_, rfl⟩
    have hb0 : Below w.heap.size w W := by rw [hWd]; exact ((((Below.refl w.heap.size w).alloc (Nat.le_refl _) _).alloc (by simp) _)).drew
    have hbl : Blk W (w.heap.size + 1) 2 #[.int .i64 0] := by rw [hWd]; exact Blk.drew ((by have h := Blk.new (w.alloc (.cells #[.int .i64 0] 2)) 2 #[.int .i64 0]; simpa using h))
    have hbh : Blk W w.heap.size 2 #[.int .i64 0] := by rw [hWd]; exact Blk.drew ((Blk.new w 2 #[.int .i64 0]).alloc (.cells #[.int .i64 0] 2))
    have hsz : W.heap.size = w.heap.size + 2 := by rw [hWd]; simp
    rw [← hWd]
    clear hWd
    obtain ⟨p, hp⟩ : ∃ p, p = w.heap.size := ⟨_, rfl⟩
    obtain ⟨q, hq⟩ : ∃ q, q = w.heap.size + 1 := ⟨_, rfl⟩
    rw [← hq] at hbl ⊢
    rw [← hp] at hbh ⊢
    have hpq : p ≠ q ∧ p ≠ g ∧ p ≠ s ∧ p ≠ K ∧ q ≠ g ∧ q ≠ s ∧ q ≠ K := by omega
    have hpz : w.heap.size ≤ p ∧ w.heap.size ≤ q ∧ p < W.heap.size ∧ q < W.heap.size := by omega
    clear hp hq
    have PZ := Lib.hid hpz
    obtain ⟨e1, e2, e3, e4, e5, e6, e7⟩ := hpq
    clear hpz
    have B0 := Lib.hid hb0
    have L0 := Lib.hid hbl
    have U0 := Lib.hid hbh
    clear hb0 hbl hbh
    have M0 := Lib.hid True.intro
    go_wp2_with (go_at_call 48; refine (numberL_no4 g s q 0 2 l #[.int .i64 0] _ (HW.out.below' B0.out) L0.out rfl hkl).mono ?_; rintro e w1 ⟨rfl, hb1⟩)
    have _hu := U0.out
    exact ⟨rfl, rfl, (Fr.of_below (S := fun j => j = g) B0.out).below hb1⟩
set_option maxRecDepth 8000 in
set_option maxHeartbeats 400000 in
theorem signed_noB (g s K i : Nat) (tk : TypeId) (l : List UInt8) (cs : Array Value) (w : World) (hW : RdAt w g s l) (hK : Blk w K tk cs) (hv : cs[i]? = some (.int .i64 0)) (hkl : 4 ≤ l.length ∧ l.length < 8) (hg : K ≠ g) (hs : K ≠ s) :
    Calls Tryd.prog 51 #[rdi g, .pointer (some ⟨K, i, none⟩)] w fun e w' => e = .panicked (erc 151) ∧ Fr (fun j => j = g) w w' := by
  have hc0 := (hK.cell i).trans hv
  have hc1 := ((hK.alloc (.cells #[.int .i64 0] 2)).cell i).trans hv
  have hc2 := (((hK.alloc (.cells #[.int .i64 0] 2)).alloc (.cells #[.int .i64 0] 2)).cell i).trans hv
  have hlow : bits BinOp.and .i64 0 4294967295 = 0 := low_un 0
  have hhigh : wrap64 (IntKind.u64.wrap 0 / 4294967296) = 0 := high_un 0
  have hw0 : IntKind.u64.wrap 0 = 0 := wrap_un 0
  have HW := Lib.hid hW
  have HK := Lib.hid hK
  have HV := Lib.hid hv
  obtain ⟨hkl, hkm⟩ := hkl
  have hl1 := hW.lt
  have hl2 := hW.lts
  have hl3 := hK.lt
  clear hW hK hv
  go_enter Tryd.func51, Tryd.ntmps51
  go_wp2
  go_region
  all_goals clear hlow hhigh hw0 hc0 hc1 hc2
  · obtain ⟨W, hWd⟩ : ∃ W, W = ((w.alloc (.cells #[.int .i64 0] 2)).alloc (.cells #[.int .i64 0] 2)).drew := ⟨_, rfl⟩
    have hb0 : Below w.heap.size w W := by rw [hWd]; exact ((((Below.refl w.heap.size w).alloc (Nat.le_refl _) _).alloc (by simp) _)).drew
    have hbl : Blk W w.heap.size 2 #[.int .i64 0] := by rw [hWd]; exact Blk.drew ((Blk.new w 2 #[.int .i64 0]).alloc (.cells #[.int .i64 0] 2))
    have hbh : Blk W (w.heap.size + 1) 2 #[.int .i64 0] := by rw [hWd]; exact Blk.drew ((by have h := Blk.new (w.alloc (.cells #[.int .i64 0] 2)) 2 #[.int .i64 0]; simpa using h))
    have hsz : W.heap.size = w.heap.size + 2 := by rw [hWd]; simp
    rw [← hWd]
    clear hWd
    obtain ⟨p, hp⟩ : ∃ p, p = w.heap.size := ⟨_, rfl⟩
    obtain ⟨q, hq⟩ : ∃ q, q = w.heap.size + 1 := ⟨_, rfl⟩
    rw [← hq] at hbh ⊢
    rw [← hp] at hbl ⊢
    have hpq : p ≠ q ∧ p ≠ g ∧ p ≠ s ∧ p ≠ K ∧ q ≠ g ∧ q ≠ s ∧ q ≠ K := by omega
    have hpz : w.heap.size ≤ p ∧ w.heap.size ≤ q ∧ p < W.heap.size ∧ q < W.heap.size := by omega
    clear hp hq
    have PZ := Lib.hid hpz
    obtain ⟨e1, e2, e3, e4, e5, e6, e7⟩ := hpq
    clear hpz
    have B0 := Lib.hid hb0
    have L0 := Lib.hid hbl
    have U0 := Lib.hid hbh
    clear hb0 hbl hbh
    have M0 := Lib.hid True.intro
    go_wp2_with (first
      | (go_at_call 48; clear M0; refine (numberL_r4 g s p 0 2 l #[.int .i64 0] _ (HW.out.below' B0.out) L0.out rfl (by omega) (by omega) (by omega)).mono ?_; rintro e w1 ⟨rfl, hw1, hl1', hf1⟩; have hu1 := (hf1.block q (by have := PZ.out; omega) (by rintro (h | h) <;> omega)).trans U0.out; have hk1 := (hf1.block K (by omega) (by rintro (h | h) <;> omega)).trans (HK.out.below B0.out HK.out.lt); have W1 := Lib.hid hw1; have L1 := Lib.hid hl1'; have U1 := Lib.hid hu1; have K1 := Lib.hid hk1; have F1 := Lib.hid hf1; clear hw1 hl1' hu1 hk1 hf1)
      | (go_at_call 48; refine (numberL_no4 g s q 0 2 (l.drop 4) #[.int .i64 0] _ W1.out U1.out rfl (by rw [List.length_drop]; omega)).mono ?_; rintro e w2 ⟨rfl, hb2⟩))
    have hnn : ∀ j, j < w.heap.size → ¬ (j = p ∨ j = q) := by have := PZ.out; omega
    have hf := ((Fr.of_below (S := fun j => j = g) B0.out).then_ F1.out (fun j hj h => h.elim id (fun h => by have := hnn j hj; omega))).below hb2
    exact ⟨rfl, rfl, hf⟩
  · obtain ⟨W, hWd⟩ : ∃ W, W = ((w.alloc (.cells #[.int .i64 0] 2)).alloc (.cells #[.int .i64 0] 2)).drew := ⟨_, rfl⟩
    have hb0 : Below w.heap.size w W := by rw [hWd]; exact ((((Below.refl w.heap.size w).alloc (Nat.le_refl _) _).alloc (by simp) _)).drew
    have hbl : Blk W (w.heap.size + 1) 2 #[.int .i64 0] := by rw [hWd]; exact Blk.drew ((by have h := Blk.new (w.alloc (.cells #[.int .i64 0] 2)) 2 #[.int .i64 0]; simpa using h))
    have hbh : Blk W w.heap.size 2 #[.int .i64 0] := by rw [hWd]; exact Blk.drew ((Blk.new w 2 #[.int .i64 0]).alloc (.cells #[.int .i64 0] 2))
    have hsz : W.heap.size = w.heap.size + 2 := by rw [hWd]; simp
    rw [← hWd]
    clear hWd
    obtain ⟨p, hp⟩ : ∃ p, p = w.heap.size := ⟨_, rfl⟩
    obtain ⟨q, hq⟩ : ∃ q, q = w.heap.size + 1 := ⟨_, rfl⟩
    rw [← hq] at hbl ⊢
    rw [← hp] at hbh ⊢
    have hpq : p ≠ q ∧ p ≠ g ∧ p ≠ s ∧ p ≠ K ∧ q ≠ g ∧ q ≠ s ∧ q ≠ K := by omega
    have hpz : w.heap.size ≤ p ∧ w.heap.size ≤ q ∧ p < W.heap.size ∧ q < W.heap.size := by omega
    clear hp hq
    have PZ := Lib.hid hpz
    obtain ⟨e1, e2, e3, e4, e5, e6, e7⟩ := hpq
    clear hpz
    have B0 := Lib.hid hb0
    have L0 := Lib.hid hbl
    have U0 := Lib.hid hbh
    clear hb0 hbl hbh
    have M0 := Lib.hid True.intro
    go_wp2_with (first
      | (go_at_call 48; clear M0; refine (numberL_r4 g s q 0 2 l #[.int .i64 0] _ (HW.out.below' B0.out) L0.out rfl (by omega) (by omega) (by omega)).mono ?_; rintro e w1 ⟨rfl, hw1, hl1', hf1⟩; have hu1 := (hf1.block p (by have := PZ.out; omega) (by rintro (h | h) <;> omega)).trans U0.out; have hk1 := (hf1.block K (by omega) (by rintro (h | h) <;> omega)).trans (HK.out.below B0.out HK.out.lt); have W1 := Lib.hid hw1; have L1 := Lib.hid hl1'; have U1 := Lib.hid hu1; have K1 := Lib.hid hk1; have F1 := Lib.hid hf1; clear hw1 hl1' hu1 hk1 hf1)
      | (go_at_call 48; refine (numberL_no4 g s p 0 2 (l.drop 4) #[.int .i64 0] _ W1.out U1.out rfl (by rw [List.length_drop]; omega)).mono ?_; rintro e w2 ⟨rfl, hb2⟩))
    have hnn : ∀ j, j < w.heap.size → ¬ (j = p ∨ j = q) := by have := PZ.out; omega
    have hf := ((Fr.of_below (S := fun j => j = g) B0.out).then_ F1.out (fun j hj h => h.elim id (fun h => by have := hnn j hj; omega))).below hb2
    exact ⟨rfl, rfl, hf⟩
set_option maxRecDepth 8000 in
theorem signed_no (g s K i : Nat) (tk : TypeId) (l : List UInt8) (cs : Array Value) (w : World) (hW : RdAt w g s l) (hK : Blk w K tk cs) (hv : cs[i]? = some (.int .i64 0)) (hkl : l.length < 8) (hg : K ≠ g) (hs : K ≠ s) :
    Calls Tryd.prog 51 #[rdi g, .pointer (some ⟨K, i, none⟩)] w fun e w' => e = .panicked (erc 151) ∧ Fr (fun j => j = g) w w' := by
  by_cases h : l.length < 4
  · exact signed_noA g s K i tk l cs w hW hK hv h
  · exact signed_noB g s K i tk l cs w hW hK hv ⟨by omega, hkl⟩ hg hs
end Go.Proofs.YtfclkkbmgclfgaaDoor

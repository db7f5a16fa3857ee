/- law 11: a page in a slot of a node in a slot of a node: where its addresses lie. Plain. -/
import Derived.Test.YtjolojomgfcfbaaDoorWFn
import Derived.Test.YtjolojomgfcfbaaDoorR21
import Derived.Test.YtjolojomgfcfbaaDoorR25
namespace Go.Proofs.YtjolojomgfcfbaaDoor
open Go.RowKit
def tK (o r : Nat) : Ky := ⟨2, (o : Int), 1, 0, (r : Int), 0⟩
def tP (r : Nat) : Ky := ⟨3, 2, 1, 0, (r : Int), 0⟩
def tV (v : Nat) : Ky := ⟨1, 0, 0, 0, 0, (v : Int)⟩
def tS (v i : Nat) (x : Ky) : List Ky := (zks.set 15 (tV v)).set i x
set_option maxRecDepth 8000 in
theorem tS_len (v i : Nat) (x : Ky) : (tS v i x).length = 16 := by simp [tS, zks]
def tN (v i : Nat) (x : Ky) : Oj := ⟨1, 1, 0, tS v i x, zbs, tS_len v i x, rfl⟩
def tO (a b i : Nat) : List Oj := [tN 2 a (tK 1 i), tN 1 b (tP 0), kn10]
theorem okK2 {o r : Int} (h0 : 0 ≤ o) (h1 : o ≤ kOid 2) (r0 : 0 ≤ r) (r7 : r ≤ kRts 2) : OkK 2 o 1 0 r 0 := ⟨2, rfl, by decide, h0, h1, by decide, by decide, by decide, by decide, r0, r7, .inl rfl⟩
theorem okK3 {r : Int} (r0 : 0 ≤ r) (r1 : r ≤ kRts 3) : OkK 3 2 1 0 r 0 := ⟨3, rfl, by decide, by decide, by decide, by decide, by decide, by decide, by decide, r0, r1, .inl rfl⟩
theorem okK1 (v : Int) : OkK 1 0 0 0 0 v := ⟨1, rfl, by decide, by decide, by decide, by decide, by decide, by decide, by decide, by decide, by decide, .inr rfl⟩
theorem kOid2 : kOid 2 = 63 := rfl
theorem kRts2 : kRts 2 = 7 := rfl
theorem kRts3 : kRts 3 = 1 := rfl
theorem tK_ok {o r : Nat} (h1 : o ≤ 63) (r7 : r ≤ 7) : (tK o r).ok := okK2 (o := (o : Int)) (r := (r : Int)) (by omega) (by rw [kOid2]; omega) (by omega) (by rw [kRts2]; omega)
theorem tK_of {o r : Nat} (h1 : o ≤ 63) (r7 : r ≤ 7) : (tK o r).of := ⟨tK_ok h1 r7, show (2 : Int) ≤ 2 by decide, show (2 : Int) ≤ 7 by decide⟩
theorem tP_ok {r : Nat} (r1 : r ≤ 1) : (tP r).ok := okK3 (r := (r : Int)) (by omega) (by rw [kRts3]; omega)
theorem tP_of {r : Nat} (r1 : r ≤ 1) : (tP r).of := ⟨tP_ok r1, show (2 : Int) ≤ 3 by decide, show (3 : Int) ≤ 7 by decide⟩
theorem tV_ok (v : Nat) : (tV v).ok := okK1 (v : Int)
theorem tV_not (v : Nat) : ¬ (tV v).of := fun h => absurd h.2.1 (show ¬ (2 : Int) ≤ 1 by decide)
set_option maxRecDepth 8000 in
theorem tK_cn {o r v i : Nat} {x : Ky} (h1 : o ≤ 63) (r7 : r ≤ 7) : (tK o r).cn (tN v i x) = true := by
  unfold Ky.cn
  refine cnt_yes ⟨tK_ok h1 r7, fun h => ⟨?_, rfl, .inl (show (2 : Int) ≠ 7 by decide)⟩⟩
  unfold Ky.want
  rw [if_pos h]
  rfl
set_option maxRecDepth 8000 in
theorem tP_cn {r : Nat} (r1 : r ≤ 1) : (tP r).cn kn10 = true := by
  unfold Ky.cn
  refine cnt_yes ⟨tP_ok r1, fun h => ⟨?_, rfl, .inl (show (3 : Int) ≠ 7 by decide)⟩⟩
  unfold Ky.want
  rw [if_pos h]
  rfl
section
variable {os : List Oj}
set_option maxRecDepth 8000 in
theorem tK_d {o r v i : Nat} {x : Ky} (hl : o < os.length) (he : os[o] = tN v i x) (h1 : o ≤ 63) (r7 : r ≤ 7) : AskD os (tK o r) o (tN v i x) := ⟨by
  rw [named_is (tK_of h1 r7)]
  have e : os[(tK o r).o.toNat]? = some (tN v i x) := by rw [show (tK o r).o.toNat = o from rfl, List.getElem?_eq_getElem hl, he]
  rw [e, Option.filter_some, tK_cn h1 r7]
  rfl, rfl, tK_ok h1 r7, rfl, hl, he, rfl⟩
set_option maxRecDepth 8000 in
theorem tP_d {r : Nat} (hl : 2 < os.length) (he : os[2] = kn10) (r1 : r ≤ 1) : PgD os (tP r) 2 kn10 := ⟨by
  rw [named_is (tP_of r1)]
  have e : os[(tP r).o.toNat]? = some kn10 := by rw [show (tP r).o.toNat = 2 from rfl, List.getElem?_eq_getElem hl, he]
  rw [e, Option.filter_some, tP_cn r1]
  rfl, rfl, tP_ok r1, rfl, hl, he, rfl, by show ((r : Int) = 0 ∨ (r : Int) = 1); omega⟩
set_option maxRecDepth 8000 in
theorem prepd_tK {o r v i : Nat} {x : Ky} (h : AskD os (tK o r) o (tN v i x)) : prepd os (tK o r) = tK o r := by
  unfold prepd
  rw [h.nm]
  rfl
set_option maxRecDepth 8000 in
theorem prepd_tP {r : Nat} (h : PgD os (tP r) 2 kn10) : prepd os (tP r) = tP r := by
  unfold prepd
  rw [h.nm]
  rfl
end
theorem tK_weak (o r : Nat) : (tK o r).weak = tK o (lsN r 3 7) := weak_less (.inl rfl)
theorem tP_weak : (tP 0).weak = tP 1 := weak_less (.inr rfl)
set_option maxRecDepth 8000 in
theorem sl_self (v i : Nat) (x : Ky) (hi : i ≤ 13) : sl (tN v i x) i = x := by
  unfold sl
  show ((tS v i x)[i]?).getD zk = x
  rw [tS, List.getElem?_set_self (by simp [zks]; omega)]
  rfl
set_option maxRecDepth 8000 in
theorem sl_15 (v i : Nat) (x : Ky) (hi : i ≤ 13) : sl (tN v i x) 15 = tV v := by
  unfold sl
  show ((tS v i x)[15]?).getD zk = tV v
  rw [tS, List.getElem?_set_ne (by omega), List.getElem?_set_self (by simp [zks])]
  rfl
set_option maxRecDepth 8000 in
theorem sl_14 (v i : Nat) (x : Ky) (hi : i ≤ 13) : sl (tN v i x) 14 = zk := by
  unfold sl
  show ((tS v i x)[14]?).getD zk = zk
  rw [tS, List.getElem?_set_ne (by omega), List.getElem?_set_ne (by decide)]
  rfl
set_option maxRecDepth 8000 in
theorem keep_tN (os : List Oj) (v i : Nat) (x : Ky) (hi : i ≤ 13) (r : Nat) (kp : Ky) : keep os (tN v i x) r kp = kp := by
  unfold keep
  rw [sl_14 v i x hi, prepd_zk]
  exact if_neg (fun h => absurd h.1 (by decide))
set_option maxRecDepth 8000 in
/-- one step through a node of the tree -/
theorem step_tN {os : List Oj} {s : Ws} {o r v i : Nat} {y : Ky} (hx : s.x = tK o r) (hd : AskD os (tK o r) o (tN v i y)) (h8 : s.d ≠ 8) (hi : i ≤ 13) (hv : 1 ≤ v ∧ v ≤ 8) (hh : (v : Int) < s.high) (hp : s.left / part v = i) :
    stepW os s = .inr ⟨gotK os (tK o r) y, s.left % part v, (v : Int), s.r ||| r, s.kp, s.d + 1⟩ := by
  have hd' : AskD os s.x o (tN v i y) := hx ▸ hd
  have h15 := sl_15 v i y hi
  rw [stepW_on hd' h8 (by rw [h15]; exact ⟨rfl, by show (1 : Int) ≤ v; omega, by show (v : Int) ≤ 8; omega, hh⟩) (m := v) (by rw [h15]; rfl) (by rw [hp]; omega), hp, sl_self v i y hi, keep_tN _ _ _ _ hi, hx]
  rfl
/-- the rights that are left -/
def tR (r i : Nat) : Nat := if r / 2 % 2 = 1 then lsN i 3 7 else i
def tQ (r i : Nat) : Nat := if (r ||| tR r i) % 4 = 0 then (if tR r i / 2 % 2 = 1 then 1 else 0) else 1
set_option maxRecDepth 8000 in
theorem tR_le : ∀ r < 8, ∀ i < 8, tR r i ≤ 7 := by decide
set_option maxRecDepth 8000 in
theorem tQ_eq : ∀ r < 8, ∀ i < 8, tQ r i = if r % 4 = 0 ∧ i % 4 = 0 then 0 else 1 := by decide
set_option maxRecDepth 8000 in
theorem got_tK {os : List Oj} {r i v a : Nat} {x : Ky} (h : AskD os (tK 1 i) 1 (tN v a x)) : gotK os (tK 0 r) (tK 1 i) = tK 1 (tR r i) := by
  unfold gotK tR
  rw [prepd_tK h]
  by_cases hr : r / 2 % 2 = 1
  · rw [if_pos (show (tK 0 r).r / 2 % 2 = 1 by show (r : Int) / 2 % 2 = 1; omega), if_pos hr, tK_weak]
  · rw [if_neg (show ¬ (tK 0 r).r / 2 % 2 = 1 by show ¬ (r : Int) / 2 % 2 = 1; omega), if_neg hr]
set_option maxRecDepth 8000 in
theorem got_tP {os : List Oj} {r : Nat} (h : PgD os (tP 0) 2 kn10) : gotK os (tK 1 r) (tP 0) = tP (if r / 2 % 2 = 1 then 1 else 0) := by
  unfold gotK
  rw [prepd_tP h]
  by_cases hr : r / 2 % 2 = 1
  · rw [if_pos (show (tK 1 r).r / 2 % 2 = 1 by show (r : Int) / 2 % 2 = 1; omega), if_pos hr, tP_weak]
  · rw [if_neg (show ¬ (tK 1 r).r / 2 % 2 = 1 by show ¬ (r : Int) / 2 % 2 = 1; omega), if_neg hr]
set_option maxRecDepth 8000 in
theorem gone_t {a b t r i : Nat} (ha : a ≤ 13) (hb : b ≤ 13) (ht : t ≤ 63) (hr : r < 8) (hi : i < 8) : goneW (tO a b i) (tK 0 r) ((a * 1024 + b * 64 + t : Nat) : Int) = .found (tP (tQ r i)) t zk 2 := by
  have p2 : part 2 = 1024 := rfl
  have p1 : part 1 = 64 := rfl
  have d0 : AskD (tO a b i) (tK 0 r) 0 (tN 2 a (tK 1 i)) := tK_d (show 0 < 3 by decide) rfl (by decide) (by omega)
  have d1 : AskD (tO a b i) (tK 1 (tR r i)) 1 (tN 1 b (tP 0)) := tK_d (show 1 < 3 by decide) rfl (by decide) (tR_le r hr i hi)
  have d1' : AskD (tO a b i) (tK 1 i) 1 (tN 1 b (tP 0)) := tK_d (show 1 < 3 by decide) rfl (by decide) (by omega)
  have dp : ∀ q, q ≤ 1 → PgD (tO a b i) (tP q) 2 kn10 := fun q hq => tP_d (show 2 < 3 by decide) rfl hq
  unfold goneW
  rw [Int.toNat_natCast, run_succ, step_tN (s := ws0 (tK 0 r) (a * 1024 + b * 64 + t)) rfl d0 (show (0 : Nat) ≠ 8 by decide) ha ⟨by decide, by decide⟩ (by show ((2 : Nat) : Int) < 9; decide) (by rw [p2]; show (a * 1024 + b * 64 + t) / 1024 = a; omega)]
  dsimp only
  rw [got_tK d1', p2, run_succ, step_tN (o := 1) (r := tR r i) (v := 1) (i := b) (y := tP 0) rfl d1 (by show (0 : Nat) + 1 ≠ 8; decide) hb ⟨by decide, by decide⟩ (by show ((1 : Nat) : Int) < ((2 : Nat) : Int); decide) (by rw [p1]; show (a * 1024 + b * 64 + t) % 1024 / 64 = b; omega)]
  dsimp only
  rw [got_tP (dp 0 (by decide)), p1, run_succ, stepW_page (dp _ (by split <;> decide)).is (by show ¬ 64 ≤ (a * 1024 + b * 64 + t) % 1024 % 64; omega)]
  dsimp only
  have e1 : (a * 1024 + b * 64 + t) % 1024 % 64 = t := by omega
  show Wo.found (pgK (tP (if tR r i / 2 % 2 = 1 then 1 else 0)) (0 ||| r ||| tR r i)) ((a * 1024 + b * 64 + t) % 1024 % 64) zk 2 = _
  rw [e1, Nat.zero_or]
  unfold pgK tQ
  split <;> rfl
theorem may_t {a b r i : Nat} (hr : r < 8) : (tK 0 r).may (tO a b i).length := ⟨tK_ok (by decide) (by omega), fun _ => show (0 : Int) < 3 by decide⟩
set_option maxRecDepth 8000 in
theorem ref_t {a b r i : Nat} (hr : r < 8) (ad : Nat) (n : Int) (h0 : 0 ≤ n) (hn : n ≤ 64) : refA (tO a b i) (tK 0 r) (ad : Int) n = 0 := by
  unfold refA
  rw [if_pos (may_t hr), if_pos ⟨by omega, h0, hn⟩]
set_option maxRecDepth 8000 in
theorem walk_t {a b t r i : Nat} (ha : a ≤ 13) (hb : b ≤ 13) (ht : t ≤ 63) (hr : r < 8) (hi : i < 8) : walkA (tO a b i) (tK 0 r) ((a * 1024 + b * 64 + t : Nat) : Int) = ((⟨tP (tQ r i), (t : Int), zk, 2⟩ : Fo), zfa, 0) := by
  unfold walkA
  rw [if_pos (ref_t hr _ 0 (by decide) (by decide)), gone_t ha hb ht hr hi]
  rfl
set_option maxRecDepth 8000 in
/-- a store of one byte there: it goes, or is told that it may not be -/
theorem store_t {a b t r i : Nat} (ha : a ≤ 13) (hb : b ≤ 13) (ht : t ≤ 63) (hr : r < 8) (hi : i < 8) (z : UInt8) : (storeA (tO a b i) (tK 0 r) ((a * 1024 + b * 64 + t : Nat) : Int) [z]).2.2 = 0 ∧ ∃ fa : Fa, (storeA (tO a b i) (tK 0 r) ((a * 1024 + b * 64 + t : Nat) : Int) [z]).2.1 = fa ∧ fa.k = if tQ r i = 0 then 0 else 6 := by
  have hl : (([z] : List UInt8).length : Int) = 1 := rfl
  unfold storeA
  rw [hl, if_pos (ref_t hr _ (1 : Int) (by decide) (by decide)), gone_t ha hb ht hr hi]
  have h1 : (Wo.found (tP (tQ r i)) t zk 2).hold 1 = .found (tP (tQ r i)) t zk 2 := if_neg (by show ¬ (64 : Int) < (t : Int) + 1; omega)
  rw [h1]
  refine ⟨rfl, _, rfl, ?_⟩
  by_cases hq : tQ r i = 0
  · have h2 : (Wo.found (tP (tQ r i)) t zk 2).wr = .found (tP (tQ r i)) t zk 2 := if_pos (show ((tQ r i : Nat) : Int) = 0 by omega)
    rw [if_pos hq, h2]
    rfl
  · have h2 : (Wo.found (tP (tQ r i)) t zk 2).wr = .fault 6 zk := if_neg (show ¬ ((tQ r i : Nat) : Int) = 0 by omega)
    rw [if_neg hq, h2]
    rfl
set_option maxRecDepth 8000 in
-- the objects may be
theorem tS_may {n : Int} {v i : Nat} {x : Ky} (hx : x.may n) : mayS n (tS v i x) := by
  intro y hy
  rcases List.mem_or_eq_of_mem_set hy with hy | rfl
  · rcases List.mem_or_eq_of_mem_set hy with hy | rfl
    · exact zks_may n y hy
    · exact ⟨tV_ok v, fun h => absurd h (tV_not v)⟩
  · exact hx
set_option maxRecDepth 8000 in
theorem tO_made {a b i : Nat} (hi : i < 8) : madeP (tO a b i) := by
  refine ⟨by show 3 ≤ 20; decide, by show 1 ≤ 3; decide, by show 3 ≤ 64; decide, fun u hu => ?_⟩
  have hl : ((tO a b i).length : Int) = 3 := rfl
  rw [hl]
  have k1 : (tK 1 i).may 3 := ⟨tK_ok (by decide) (by omega), fun _ => show (1 : Int) < 3 by decide⟩
  have k2 : (tP 0).may 3 := ⟨tP_ok (by decide), fun _ => show (2 : Int) < 3 by decide⟩
  simp only [tO, List.mem_cons, List.not_mem_nil, or_false] at hu
  rcases hu with rfl | rfl | rfl
  · exact ⟨by decide, show (0 : Int) ≤ 1 ∧ (1 : Int) ≤ 4294967295 by decide, show (0 : Int) ≤ 0 ∧ (0 : Int) ≤ 4294967295 by decide, .inl ⟨rfl, tS_may k1⟩⟩
  · exact ⟨by decide, show (0 : Int) ≤ 1 ∧ (1 : Int) ≤ 4294967295 by decide, show (0 : Int) ≤ 0 ∧ (0 : Int) ≤ 4294967295 by decide, .inl ⟨rfl, tS_may k2⟩⟩
  · exact ⟨by decide, by decide, by decide, .inr (.inl ⟨rfl, by decide⟩)⟩
end Go.Proofs.YtjolojomgfcfbaaDoor

/- procs: a call and its answer, between two processes: plain. -/
import Derived.Test.YtljfddeolapeaaaDoorJAl
namespace Go.Proofs.YtljfddeolapeaaaDoor
open Go.RowKit
def jR (c : Int) : Oj := callsAs (slotAs (oKC 1 1) 2 (nmk 1)) c
def jW : Oj := slotAs (oKC 1 1) 2 (nmk 0)
def jS (v : Int) : Ky := ⟨6, 1, 1, 0, 0, v⟩
def rK (c : Int) : Ky := ⟨7, 0, 1, c, 0, 0⟩
/-- keys that name nothing -/
def qk (m : Mg) : Prop := ∀ y ∈ m.k, y.ok ∧ ¬ y.of
set_option maxRecDepth 8000 in
theorem prepd_q (os : List Oj) {y : Ky} (h : y.ok ∧ ¬ y.of) : prepd os y = y := by
  unfold prepd
  rw [if_pos]
  rw [Bool.or_eq_true]
  exact .inr (cn_oz.2 h)
set_option maxRecDepth 8000 in
theorem cntM_q (os : List Oj) {m : Mg} (h : qk m) : cntM os m = m := by
  have e : m.k.map (prepd os) = m.k := by
    conv => rhs; rw [← List.map_id m.k]
    exact List.map_congr_left fun y hy => prepd_q os (h y hy)
  unfold cntM Mg.ksAs
  simp only [e]
theorem may_q {n : Int} {m : Mg} (h : qk m) : mayS n m.k := fun y hy => ⟨(h y hy).1, fun q => absurd q (h y hy).2⟩
set_option maxRecDepth 8000 in
theorem hdB_0 (d : List UInt8) : ((hdB d)[0]?).getD 0 = UInt8.ofNat d.length := by
  unfold hdB
  rfl
set_option maxRecDepth 8000 in
theorem datB_h (d : List UInt8) (h : d.length ≤ 32) : datB (hdB d) = d := by
  have hn : (UInt8.ofNat d.length).toNat = d.length := by
    have := u8_len h
    omega
  unfold datB
  rw [hdB_0 d, hn, if_pos h]
  unfold hdB
  rw [show (UInt8.ofNat d.length :: d ++ zbs).take 64 = UInt8.ofNat d.length :: (d ++ zbs).take 63 from rfl, List.drop_one, List.tail_cons, List.take_take, Nat.min_eq_left (by omega), List.take_left' rfl]
set_option maxRecDepth 8000 in
theorem tol_hand (os : List Oj) (u : Oj) {m : Mg} (hd : m.d.length ≤ 32) (hq : qk m) (k : Ky) : tolM os (handO u m k) = m := by
  obtain ⟨c0, d, l, hl⟩ := m
  obtain ⟨x0, x1, x2, rfl⟩ := list3 hl
  obtain ⟨uk, uc, ul, s, bb, hs, hb⟩ := u
  obtain ⟨a0, a1, a2, a3, a4, a5, a6, a7, a8, a9, b0, b1, b2, b3, b4, b5, rfl⟩ := list16 hs
  have h0 := prepd_q os (hq x0 (by simp))
  have h1 := prepd_q os (hq x1 (by simp))
  have h2 := prepd_q os (hq x2 (by simp))
  have hb2 := datB_h d hd
  show (⟨codK (nmk c0), datB (hdB d), [prepd os x0, prepd os x1, prepd os x2], rfl⟩ : Mg) = _
  simp only [hb2, h0, h1, h2]
  rfl
set_option maxRecDepth 8000 in
theorem stN_hand {u : Oj} (hk : u.k = 1) (m : Mg) (k : Ky) : stN (handO u m k) = some 1 := by
  have h2 : slt (handO u m k) 2 = nmk 1 := by
    unfold handO
    rw [slt_as _ 2 (by decide), if_pos rfl]
  unfold stN
  rw [if_pos]
  · rw [h2]
  · refine ⟨hk, ?_⟩
    rw [h2]
    decide
set_option maxRecDepth 8000 in
theorem stN_slot {u : Oj} (hk : u.k = 1) (s : Int) (hs : 0 ≤ s ∧ s ≤ 2) : stN (slotAs u 2 (nmk s)) = some s := by
  have h2 : slt (slotAs u 2 (nmk s)) 2 = nmk s := by rw [slt_as _ 2 (by decide), if_pos rfl]
  unfold stN
  rw [if_pos]
  · rw [h2]
  · refine ⟨hk, ?_⟩
    rw [h2]
    exact ⟨rfl, hs⟩
theorem jS_ok (v : Int) : (jS v).ok := ⟨6, rfl, by decide, (by decide : (0 : Int) ≤ 1), (by decide : (1 : Int) ≤ kOid 6), (by decide : (0 : Int) ≤ 1), (by decide : (1 : Int) ≤ kCnt 6), Int.le_refl 0, (by decide : (0 : Int) ≤ kCall 6), Int.le_refl 0, (by decide : (0 : Int) ≤ kRts 6), .inr rfl⟩
theorem jS_of (v : Int) : (jS v).of := ⟨jS_ok v, (by decide : (2 : Int) ≤ 6), (by decide : (6 : Int) ≤ 7)⟩
set_option maxRecDepth 8000 in
theorem want_of' {x : Ky} (h : x.of) (h3 : x.k ≠ 3) : x.want = 1 := by
  unfold Ky.want
  rw [if_pos h, if_neg h3]
set_option maxRecDepth 8000 in
theorem cn_yes' {x : Ky} {o : Oj} (h : x.of) (h3 : x.k ≠ 3) (hk : o.k = 1) (hc : x.c = o.c) (hl : x.k ≠ 7 ∨ x.l = o.l) : x.cn o = true := by
  unfold Ky.cn
  exact cnt_yes ⟨h.1, fun _ => ⟨(want_of' h h3).trans hk.symm, hc, hl⟩⟩
set_option maxRecDepth 8000 in
theorem named_yes {os : List Oj} {x : Ky} (h : x.of) (j : Nat) (hj : j < os.length) (ho : x.o = (j : Int)) (hc : x.cn os[j] = true) : named os x = some os[j] := by
  rw [named_is h, show x.o.toNat = j by omega, List.getElem?_eq_getElem hj]
  simp [Option.filter, hc]
theorem jR_ok {c : Int} (h : 0 ≤ c ∧ c ≤ 4294967295) : (jR c).ok 2 := callsAs_ok (slotAs_ok (oKC_ok (by decide) (.inr (.inl rfl)) (by decide)) rfl 2 (nmk_may _ _)) rfl c h
theorem jW_ok : jW.ok 2 := slotAs_ok (oKC_ok (by decide) (.inr (.inl rfl)) (by decide)) rfl 2 (nmk_may _ _)
theorem two_all {n : Int} {u v : Oj} (hu : u.ok n) (hv : v.ok n) : okAll n [u, v] := fun o ho => by
  simp only [List.mem_cons, List.not_mem_nil, or_false] at ho
  rcases ho with rfl | rfl
  · exact hu
  · exact hv
set_option maxRecDepth 8000 in
-- the call
theorem back1 {c : Int} (hc : 0 ≤ c ∧ c ≤ 4294967294) (v : Int) {m : Mg} (hd : m.d.length ≤ 32) (hq : qk m) : InvD [jR c, jW] 0 (jS v) 1 m 0 1 0 where
  hmd := by decide
  hx := ⟨jS_ok v, fun _ => by show (1 : Int) < 2; decide⟩
  hm := ⟨hd, may_q hq⟩
  hi := rfl
  ha := (by decide : 0 < 2)
  run := rfl
  nm := by
    rw [named_yes (os := [jR c, jW]) (jS_of v) 1 (by decide : 1 < 2) rfl (cn_yes' (jS_of v) (by decide : (6 : Int) ≠ 3) rfl rfl (.inl (by decide : (6 : Int) ≠ 7)))]
    rfl
  k := .inl rfl
  ho := rfl
  hb := (by decide : 1 < 2)
  st := rfl
  start := fun _ => .inr rfl
  res := fun h => absurd h (by decide : (6 : Int) ≠ 7)
  call := fun _ => by
    show c ≠ 4294967295
    omega
def L1 (c : Int) (m : Mg) : List Oj := [slotAs (jR c) 2 (nmk 2), handO jW m (rK c)]
set_option maxRecDepth 8000 in
theorem inv1 {c : Int} (hc : 0 ≤ c ∧ c ≤ 4294967294) (v : Int) {m : Mg} (hd : m.d.length ≤ 32) (hq : qk m) : invA [jR c, jW] 0 (jS v) 1 m = (L1 c m, 0) := by
  rw [(back1 hc v hd hq).eq, cntM_q _ hq]
  rfl
set_option maxRecDepth 8000 in
theorem tol1 (c : Int) {m : Mg} (hd : m.d.length ≤ 32) (hq : qk m) : tolA (L1 c m) 1 = (m, 0) := by
  have e : objA (L1 c m) 1 = handO jW m (rK c) := rfl
  unfold tolA
  rw [if_neg (by unfold stA; rw [e, stN_hand rfl]; simp), e, tol_hand _ _ hd hq]
set_option maxRecDepth 8000 in
theorem st1 (c : Int) (m : Mg) : stA (L1 c m) 0 = some 2 := by
  have e : objA (L1 c m) 0 = slotAs (jR c) 2 (nmk 2) := rfl
  unfold stA
  rw [e]
  exact stN_slot rfl 2 (by decide)
-- its answer
def L2 (c : Int) (m n : Mg) : List Oj := [handO (callsAs (slotAs (jR c) 2 (nmk 2)) (c + 1)) n zk, slotAs (handO jW m (rK c)) 2 (nmk 0)]
-- what the laws' known asks
def jM : Mg := ⟨5, [104, 105], [zk, zk, zk], rfl⟩
theorem zk_q : zk.ok ∧ ¬ zk.of := ⟨zk_ok, fun h => absurd (show (2 : Int) ≤ 0 from h.2.1) (by decide)⟩
set_option maxRecDepth 8000 in
theorem jM_q : qk jM := fun y hy => by
  have : y = zk := by
    have h : y ∈ [zk, zk, zk] := hy
    simpa using h
  rw [this]
  exact zk_q
end Go.Proofs.YtljfddeolapeaaaDoor

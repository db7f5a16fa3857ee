/- keys: the table of kinds, and what the cells of its variable hold: words. -/
import Derived.Test.YtjolojomgfcfbaaDoorProg
import Derived.Test.YtjolojomgfcfbaaDoorR01
namespace Go.Proofs.YtjolojomgfcfbaaDoor
open Go.RowKit
def kWants : Nat → Int | 2 => 1 | 3 => 2 | 4 => 1 | 5 => 1 | 6 => 1 | 7 => 1 | _ => 0
def kOid (k : Nat) : Int := if 2 ≤ k ∧ k ≤ 7 then 63 else 0
def kCnt (k : Nat) : Int := if 2 ≤ k ∧ k ≤ 7 then 4294967295 else 0
def kCall (k : Nat) : Int := if k = 7 then 4294967295 else 0
def kRts (k : Nat) : Int := if k = 2 then 7 else if k = 3 then 1 else 0
def kVal (k : Nat) : Bool := decide (k = 1 ∨ k = 6)
def kName : Nat → List UInt8
  | 0 => [118, 111, 105, 100] | 1 => [110, 117, 109, 98, 101, 114] | 2 => [110, 111, 100, 101] | 3 => [112, 97, 103, 101] | 4 => [98, 97, 110, 107] | 5 => [112, 114, 111, 99]
  | 6 => [115, 116, 97, 114, 116] | 7 => [114, 101, 115, 117, 109, 101] | 8 => [100, 105, 115, 99, 114, 105, 109] | 9 => [99, 108, 111, 99, 107] | _ => [99, 104, 101, 99, 107]
/-- the k-th kind's cells -/
def kCells (k : Nat) : List Value := [.string (st (kName k)), .int .i64 (kWants k), .int .i64 (kOid k), .int .i64 (kCnt k), .int .i64 (kCall k), .int .i64 (kRts k), .bool (kVal k)]
/-- the variable's cells -/
def Tab (w : World) : Prop := ∀ k, k ≤ 10 → ∀ j u, (kCells k)[j]? = some u → w.cell? ⟨0, k * 7 + j, none⟩ = some u
theorem Tab.lt {w : World} (h : Tab w) : 0 < w.heap.size := cell_lt (h 0 (by omega) 0 _ rfl)
theorem Tab.keep {w w' : World} (h : Tab w) (hk : ∀ p : Addr, p.block < w.heap.size → w'.cell? p = w.cell? p) : Tab w' :=
  fun k hk' j u hu => (hk _ h.lt).trans (h k hk' j u hu)
theorem Tab.below {w w' : World} (h : Tab w) (hb : Below w.heap.size w w') : Tab w' := h.keep fun _ hp => hb.cell hp
theorem Tab.alloc {w : World} (h : Tab w) (o : Obj) : Tab (w.alloc o) := h.keep fun p hp => World.cell?_alloc_lt w o p hp
theorem Tab.drew {w : World} (h : Tab w) : Tab w.drew := h
end Go.Proofs.YtjolojomgfcfbaaDoor
namespace Go.Proofs.YtjolojomgfcfbaaDoor
open Go.RowKit
/-- the cells of one kind -/
structure Row7 (w : World) (k : Nat) (nm : ByteArray) (W O C L R : Int) (V : Bool) : Prop where
  z0 : w.cell? ⟨0, k * 7, none⟩ = some (.string nm)
  z1 : w.cell? ⟨0, k * 7 + 1, none⟩ = some (.int .i64 W)
  z2 : w.cell? ⟨0, k * 7 + 2, none⟩ = some (.int .i64 O)
  z3 : w.cell? ⟨0, k * 7 + 3, none⟩ = some (.int .i64 C)
  z4 : w.cell? ⟨0, k * 7 + 4, none⟩ = some (.int .i64 L)
  z5 : w.cell? ⟨0, k * 7 + 5, none⟩ = some (.int .i64 R)
  z6 : w.cell? ⟨0, k * 7 + 6, none⟩ = some (.bool V)
  lt : 0 < w.heap.size
theorem Tab.row {w : World} (h : Tab w) {k : Nat} (hk : k ≤ 10) : Row7 w k (st (kName k)) (kWants k) (kOid k) (kCnt k) (kCall k) (kRts k) (kVal k) :=
  ⟨h k hk 0 _ rfl, h k hk 1 _ rfl, h k hk 2 _ rfl, h k hk 3 _ rfl, h k hk 4 _ rfl, h k hk 5 _ rfl, h k hk 6 _ rfl, h.lt⟩
set_option maxRecDepth 8000 in
set_option maxHeartbeats 1000000 in
theorem chk_ok0 (k : Nat) (o c l r v : Int) (w : World) (hk : k ≤ 10) (W O C L R : Int) (V : Bool) (nm : ByteArray) (z : Row7 w k nm W O C L R V) (ho : 0 ≤ o) (ho' : o ≤ O) (hc : 0 ≤ c) (hc' : c ≤ C) (hl : 0 ≤ l) (hl' : l ≤ L) (hr : 0 ≤ r) (hr' : r ≤ R) (hv : v = 0) :
    Calls Tryd.prog 36 #[.agg #[.int .i64 k, .int .i64 o, .int .i64 c, .int .i64 l, .int .i64 r, .int .i64 v]] w fun e w' => e = .returned (.int .i64 0) ∧ Below w.heap.size w w' := by
  obtain ⟨z0, z1, z2, z3, z4, z5, z6, hg⟩ := z
  subst hv
  go_enter Tryd.func36, Tryd.ntmps36
  go_wp2_with (first
    | (go_at_call 46; refine (upI_yes _ _ _ (by omega) (by omega)).mono ?_; rintro e w' ⟨rfl, rfl⟩)
    | (go_at_call 47; refine (upJ_yes _ _ _ (by omega) (by omega)).mono ?_; rintro e w' ⟨rfl, rfl⟩)
    | (go_at_call 48; refine (upR_yes _ _ _ (by omega) (by omega)).mono ?_; rintro e w' ⟨rfl, rfl⟩))
  go_ret
  exact ⟨rfl, ((Below.refl _ _).alloc (Nat.le_refl _) _).alloc (by simp) _⟩
set_option maxRecDepth 8000 in
set_option maxHeartbeats 1000000 in
theorem chk_okV (k : Nat) (o c l r v : Int) (w : World) (hk : k ≤ 10) (W O C L R : Int) (V : Bool) (nm : ByteArray) (z : Row7 w k nm W O C L R V) (ho : 0 ≤ o) (ho' : o ≤ O) (hc : 0 ≤ c) (hc' : c ≤ C) (hl : 0 ≤ l) (hl' : l ≤ L) (hr : 0 ≤ r) (hr' : r ≤ R) (hv : V = true) :
    Calls Tryd.prog 36 #[.agg #[.int .i64 k, .int .i64 o, .int .i64 c, .int .i64 l, .int .i64 r, .int .i64 v]] w fun e w' => e = .returned (.int .i64 0) ∧ Below w.heap.size w w' := by
  obtain ⟨z0, z1, z2, z3, z4, z5, z6, hg⟩ := z
  subst hv
  by_cases hv : v = 0
  · exact chk_ok0 k o c l r v w hk W O C L R true nm ⟨z0, z1, z2, z3, z4, z5, z6, hg⟩ ho ho' hc hc' hl hl' hr hr' hv
  have d1 : (v != 0) = true := by simpa using hv
  go_enter Tryd.func36, Tryd.ntmps36
  go_wp2_with (first
    | (go_at_call 46; refine (upI_yes _ _ _ (by omega) (by omega)).mono ?_; rintro e w' ⟨rfl, rfl⟩)
    | (go_at_call 47; refine (upJ_yes _ _ _ (by omega) (by omega)).mono ?_; rintro e w' ⟨rfl, rfl⟩)
    | (go_at_call 48; refine (upR_yes _ _ _ (by omega) (by omega)).mono ?_; rintro e w' ⟨rfl, rfl⟩))
  go_ret
  exact ⟨rfl, ((Below.refl _ _).alloc (Nat.le_refl _) _).alloc (by simp) _⟩
set_option maxRecDepth 8000 in
set_option maxHeartbeats 1000000 in
theorem chk_noV (k : Nat) (o c l r v : Int) (w : World) (hk : k ≤ 10) (W O C L R : Int) (V : Bool) (nm : ByteArray) (z : Row7 w k nm W O C L R V) (ho : 0 ≤ o) (ho' : o ≤ O) (hc : 0 ≤ c) (hc' : c ≤ C) (hl : 0 ≤ l) (hl' : l ≤ L) (hr : 0 ≤ r) (hr' : r ≤ R) (hv : v ≠ 0) (hV : V = false) :
    Calls Tryd.prog 36 #[.agg #[.int .i64 k, .int .i64 o, .int .i64 c, .int .i64 l, .int .i64 r, .int .i64 v]] w fun e w' => e = .returned (.int .i64 2) ∧ Below w.heap.size w w' := by
  obtain ⟨z0, z1, z2, z3, z4, z5, z6, hg⟩ := z
  subst hV
  have d1 : (v != 0) = true := by simpa using hv
  go_enter Tryd.func36, Tryd.ntmps36
  go_wp2_with (first
    | (go_at_call 46; refine (upI_yes _ _ _ (by omega) (by omega)).mono ?_; rintro e w' ⟨rfl, rfl⟩)
    | (go_at_call 47; refine (upJ_yes _ _ _ (by omega) (by omega)).mono ?_; rintro e w' ⟨rfl, rfl⟩)
    | (go_at_call 48; refine (upR_yes _ _ _ (by omega) (by omega)).mono ?_; rintro e w' ⟨rfl, rfl⟩))
  go_ret
  exact ⟨rfl, ((Below.refl _ _).alloc (Nat.le_refl _) _).alloc (by simp) _⟩
set_option maxRecDepth 8000 in
set_option maxHeartbeats 1000000 in
theorem chk_noR (k : Nat) (o c l r v : Int) (w : World) (hk : k ≤ 10) (W O C L R : Int) (V : Bool) (nm : ByteArray) (z : Row7 w k nm W O C L R V) (ho : 0 ≤ o) (ho' : o ≤ O) (hc : 0 ≤ c) (hc' : c ≤ C) (hl : 0 ≤ l) (hl' : l ≤ L) (hr : r < 0 ∨ R < r) :
    Calls Tryd.prog 36 #[.agg #[.int .i64 k, .int .i64 o, .int .i64 c, .int .i64 l, .int .i64 r, .int .i64 v]] w fun e w' => e = .returned (.int .i64 2) ∧ Below w.heap.size w w' := by
  obtain ⟨z0, z1, z2, z3, z4, z5, z6, hg⟩ := z
  go_enter Tryd.func36, Tryd.ntmps36
  go_wp2_with (first
    | (go_at_call 46; refine (upI_yes _ _ _ (by omega) (by omega)).mono ?_; rintro e w' ⟨rfl, rfl⟩)
    | (go_at_call 47; refine (upJ_yes _ _ _ (by omega) (by omega)).mono ?_; rintro e w' ⟨rfl, rfl⟩)
    | (go_at_call 48; refine (upR_no _ _ _ (by omega)).mono ?_; rintro e w' ⟨rfl, rfl⟩))
  go_ret
  exact ⟨rfl, ((Below.refl _ _).alloc (Nat.le_refl _) _).alloc (by simp) _⟩
set_option maxRecDepth 8000 in
set_option maxHeartbeats 1000000 in
theorem chk_noL (k : Nat) (o c l r v : Int) (w : World) (hk : k ≤ 10) (W O C L R : Int) (V : Bool) (nm : ByteArray) (z : Row7 w k nm W O C L R V) (ho : 0 ≤ o) (ho' : o ≤ O) (hc : 0 ≤ c) (hc' : c ≤ C) (hl : l < 0 ∨ L < l) :
    Calls Tryd.prog 36 #[.agg #[.int .i64 k, .int .i64 o, .int .i64 c, .int .i64 l, .int .i64 r, .int .i64 v]] w fun e w' => e = .returned (.int .i64 2) ∧ Below w.heap.size w w' := by
  obtain ⟨z0, z1, z2, z3, z4, z5, z6, hg⟩ := z
  go_enter Tryd.func36, Tryd.ntmps36
  go_wp2_with (first
    | (go_at_call 46; refine (upI_yes _ _ _ (by omega) (by omega)).mono ?_; rintro e w' ⟨rfl, rfl⟩)
    | (first | (go_at_call 47; refine (upJ_yes _ _ _ (by omega) (by omega)).mono ?_; rintro e w' ⟨rfl, rfl⟩) | (go_at_call 47; refine (upJ_no _ _ _ (by omega)).mono ?_; rintro e w' ⟨rfl, rfl⟩)))
  go_ret
  exact ⟨rfl, ((Below.refl _ _).alloc (Nat.le_refl _) _).alloc (by simp) _⟩
set_option maxRecDepth 8000 in
set_option maxHeartbeats 1000000 in
theorem chk_noC (k : Nat) (o c l r v : Int) (w : World) (hk : k ≤ 10) (W O C L R : Int) (V : Bool) (nm : ByteArray) (z : Row7 w k nm W O C L R V) (ho : 0 ≤ o) (ho' : o ≤ O) (hc : c < 0 ∨ C < c) :
    Calls Tryd.prog 36 #[.agg #[.int .i64 k, .int .i64 o, .int .i64 c, .int .i64 l, .int .i64 r, .int .i64 v]] w fun e w' => e = .returned (.int .i64 2) ∧ Below w.heap.size w w' := by
  obtain ⟨z0, z1, z2, z3, z4, z5, z6, hg⟩ := z
  go_enter Tryd.func36, Tryd.ntmps36
  go_wp2_with (first
    | (go_at_call 46; refine (upI_yes _ _ _ (by omega) (by omega)).mono ?_; rintro e w' ⟨rfl, rfl⟩)
    | (go_at_call 47; refine (upJ_no _ _ _ (by omega)).mono ?_; rintro e w' ⟨rfl, rfl⟩))
  go_ret
  exact ⟨rfl, ((Below.refl _ _).alloc (Nat.le_refl _) _).alloc (by simp) _⟩
set_option maxRecDepth 8000 in
set_option maxHeartbeats 1000000 in
theorem chk_noO (k : Nat) (o c l r v : Int) (w : World) (hk : k ≤ 10) (W O C L R : Int) (V : Bool) (nm : ByteArray) (z : Row7 w k nm W O C L R V) (ho : o < 0 ∨ O < o) :
    Calls Tryd.prog 36 #[.agg #[.int .i64 k, .int .i64 o, .int .i64 c, .int .i64 l, .int .i64 r, .int .i64 v]] w fun e w' => e = .returned (.int .i64 2) ∧ Below w.heap.size w w' := by
  obtain ⟨z0, z1, z2, z3, z4, z5, z6, hg⟩ := z
  go_enter Tryd.func36, Tryd.ntmps36
  go_wp2_with (first
    | (first | (go_at_call 46; refine (upI_yes _ _ _ (by omega) (by omega)).mono ?_; rintro e w' ⟨rfl, rfl⟩) | (go_at_call 46; refine (upI_no _ _ _ (by omega)).mono ?_; rintro e w' ⟨rfl, rfl⟩)))
  go_ret
  exact ⟨rfl, ((Below.refl _ _).alloc (Nat.le_refl _) _).alloc (by simp) _⟩
set_option maxRecDepth 8000 in
set_option maxHeartbeats 1000000 in
theorem chk_noK (k o c l r v : Int) (w : World) (hk : k < 0 ∨ 10 < k) :
    Calls Tryd.prog 36 #[.agg #[.int .i64 k, .int .i64 o, .int .i64 c, .int .i64 l, .int .i64 r, .int .i64 v]] w fun e w' => e = .returned (.int .i64 2) ∧ Below w.heap.size w w' := by
  go_enter Tryd.func36, Tryd.ntmps36
  go_wp2_with (go_at_call 46; refine (upI_no _ _ _ (by omega)).mono ?_; rintro e w' ⟨rfl, rfl⟩)
  go_ret
  exact ⟨rfl, (Below.refl _ _).alloc (Nat.le_refl _) _⟩
/-- a key may be -/
def OkK (k o c l r v : Int) : Prop := ∃ n : Nat, k = n ∧ n ≤ 10 ∧ 0 ≤ o ∧ o ≤ kOid n ∧ 0 ≤ c ∧ c ≤ kCnt n ∧ 0 ≤ l ∧ l ≤ kCall n ∧ 0 ≤ r ∧ r ≤ kRts n ∧ (v = 0 ∨ kVal n = true)
set_option maxRecDepth 8000 in
theorem chk_ok (k o c l r v : Int) (w : World) (hT : Tab w) (h : OkK k o c l r v) :
    Calls Tryd.prog 36 #[.agg #[.int .i64 k, .int .i64 o, .int .i64 c, .int .i64 l, .int .i64 r, .int .i64 v]] w fun e w' => e = .returned (.int .i64 0) ∧ Below w.heap.size w w' := by
  obtain ⟨n, rfl, hn, h1, h2, h3, h4, h5, h6, h7, h8, h9⟩ := h
  rcases h9 with h9 | h9
  · exact chk_ok0 n o c l r v w hn _ _ _ _ _ _ _ (hT.row hn) h1 h2 h3 h4 h5 h6 h7 h8 h9
  · exact chk_okV n o c l r v w hn _ _ _ _ _ _ _ (hT.row hn) h1 h2 h3 h4 h5 h6 h7 h8 h9
set_option maxRecDepth 8000 in
theorem chk_no (k o c l r v : Int) (w : World) (hT : Tab w) (h : ¬ OkK k o c l r v) :
    Calls Tryd.prog 36 #[.agg #[.int .i64 k, .int .i64 o, .int .i64 c, .int .i64 l, .int .i64 r, .int .i64 v]] w fun e w' => e = .returned (.int .i64 2) ∧ Below w.heap.size w w' := by
  by_cases hk : k < 0 ∨ 10 < k
  · exact chk_noK k o c l r v w hk
  obtain ⟨n, rfl⟩ := Int.eq_ofNat_of_zero_le (show 0 ≤ k by omega)
  have hn : n ≤ 10 := by omega
  by_cases ho : 0 ≤ o ∧ o ≤ kOid n
  · by_cases hc : 0 ≤ c ∧ c ≤ kCnt n
    · by_cases hl : 0 ≤ l ∧ l ≤ kCall n
      · by_cases hr : 0 ≤ r ∧ r ≤ kRts n
        · by_cases hv : v = 0 ∨ kVal n = true
          · exact absurd ⟨n, rfl, hn, ho.1, ho.2, hc.1, hc.2, hl.1, hl.2, hr.1, hr.2, hv⟩ h
          · exact chk_noV n o c l r v w hn _ _ _ _ _ _ _ (hT.row hn) ho.1 ho.2 hc.1 hc.2 hl.1 hl.2 hr.1 hr.2 (fun e => hv (.inl e)) (by cases hV : kVal n; rfl; exact absurd (.inr hV) hv)
        · exact chk_noR n o c l r v w hn _ _ _ _ _ _ _ (hT.row hn) ho.1 ho.2 hc.1 hc.2 hl.1 hl.2 (by omega)
      · exact chk_noL n o c l r v w hn _ _ _ _ _ _ _ (hT.row hn) ho.1 ho.2 hc.1 hc.2 (by omega)
    · exact chk_noC n o c l r v w hn _ _ _ _ _ _ _ (hT.row hn) ho.1 ho.2 (by omega)
  · exact chk_noO n o c l r v w hn _ _ _ _ _ _ _ (hT.row hn) (by omega)
end Go.Proofs.YtjolojomgfcfbaaDoor
namespace Go.Proofs.YtjolojomgfcfbaaDoor
open Go.RowKit
def nA (k : Int) : Bool := decide (2 ≤ k ∧ k ≤ 7)
def nB (k : Int) : Bool := decide (k = 2 ∨ k = 3)
def nC (k : Int) : Bool := decide (k = 7)
def nD (k : Int) : Bool := decide (k = 1 ∨ k = 6)
set_option maxRecDepth 8000 in
theorem four {k : Int} {a b c d : Bool} (h1 : a = nA k) (h2 : b = nB k) (h3 : c = nC k) (h4 : d = nD k) :
    Ending.returned (.tuple #[.bool a, .bool b, .bool c, .bool d]) = .returned (.tuple #[.bool (nA k), .bool (nB k), .bool (nC k), .bool (nD k)]) := by rw [h1, h2, h3, h4]
set_option maxRecDepth 8000 in
theorem res4 {fn : Func} {t u v x : Tmp} (h : fn.results = #[.tmp t, .tmp u, .tmp v, .tmp x]) (tmps : Array Value) (P : Program) (w : World) :
    (results fn tmps).run P w = .ok (.tuple #[tmps.getD t undef, tmps.getD u undef, tmps.getD v undef, tmps.getD x undef]) w := by simp [results, h]
set_option maxRecDepth 8000 in
theorem names_any (k : Int) (w : World) : Calls Tryd.prog 43 #[.int .i64 k] w fun e w' => e = .returned (.tuple #[.bool (nA k), .bool (nB k), .bool (nC k), .bool (nD k)]) ∧ w = w' := by
  go_enter Tryd.func43, Tryd.ntmps43
  go_wp2
  all_goals
    refine bodyPost_ret (res4 (t := 2) (u := 3) (v := 4) (x := 5) rfl _ _ _) rfl ⟨four ?_ ?_ ?_ ?_, rfl⟩
    · unfold nA; first | rfl | (rw [Bool.eq_iff_iff]; simp; omega)
    · unfold nB; first | rfl | (rw [Bool.eq_iff_iff]; simp; done) | (rw [Bool.eq_iff_iff]; simp; omega)
    · unfold nC; first | rfl | (rw [Bool.eq_iff_iff]; simp; done) | (rw [Bool.eq_iff_iff]; simp; omega)
    · unfold nD; first | rfl | (rw [Bool.eq_iff_iff]; simp; done) | (rw [Bool.eq_iff_iff]; simp; omega)
/-- what a key must keep, by what its kind names -/
def Keeps (A B C D : Bool) (m o c l r v : Int) : Prop :=
  (0 ≤ r ∧ r ≤ if B then m else 0) ∧ (D = true ∨ v = 0) ∧ (if A then 0 ≤ o ∧ o < 64 ∧ 0 ≤ c ∧ c ≤ 4294967295 else o = 0 ∧ c = 0) ∧ (if C then 0 ≤ l ∧ l ≤ 4294967295 else l = 0)
instance (A B C D : Bool) (m o c l r v : Int) : Decidable (Keeps A B C D m o c l r v) := by unfold Keeps; infer_instance
/-- 0 where it keeps them, 2 where not -/
def verdict (A B C D : Bool) (m o c l r v : Int) : Int := if Keeps A B C D m o c l r v then 0 else 2
theorem verdict_ok {A B C D : Bool} {m o c l r v : Int} (h : Keeps A B C D m o c l r v) : 0 = verdict A B C D m o c l r v := (if_pos h).symm
theorem verdict_no {A B C D : Bool} {m o c l r v : Int} (h : ¬ Keeps A B C D m o c l r v) : 2 = verdict A B C D m o c l r v := (if_neg h).symm
set_option maxRecDepth 8000 in
theorem ret_v {n m : Int} (h : n = m) : Ending.returned (.int .i64 n) = .returned (.int .i64 m) := by rw [h]
end Go.Proofs.YtjolojomgfcfbaaDoor
namespace Go.Proofs.YtjolojomgfcfbaaDoor
open Go.RowKit
set_option maxRecDepth 8000 in
set_option maxHeartbeats 1000000 in
theorem rchk_v7 (k o c l r v : Int) (w : World) (k0 : 0 ≤ k) (k1 : k ≤ 10) (h3 : k ≠ 3) (ha : nA k = true) (hb : nB k = false) (hc : nC k = true) (hd : nD k = false) :
    Calls Tryd.prog 32 #[.agg #[.int .i64 k, .int .i64 o, .int .i64 c, .int .i64 l, .int .i64 r, .int .i64 v]] w fun e w' => e = .returned (.int .i64 (verdict true false true false 0 o c l r v)) ∧ Below w.heap.size w w' := by
  have HN : Hid (∀ w : World, Calls Tryd.prog 43 #[.int .i64 k] w fun e w' => e = .returned (.tuple #[.bool true, .bool false, .bool true, .bool false]) ∧ w = w') := by
    refine Lib.hid fun w => ?_
    have := names_any k w
    rw [ha, hb, hc, hd] at this
    exact this
  clear ha hb hc hd
  have d3 : (k == 3) = false := by simpa using h3
  clear h3
  go_enter Tryd.func32, Tryd.ntmps32
  go_wp2_with (go_at_call 43; refine (HN.out _).mono ?_; rintro e w' ⟨rfl, rfl⟩)
  all_goals
    go_ret
    refine ⟨ret_v ?_, (Below.refl _ _).alloc (Nat.le_refl _) _⟩
    clear HN
    try simp only [bne_iff_ne, bne_eq_false_iff_eq, ne_eq] at *
    first
      | (refine verdict_ok ?_; unfold Keeps; simp; omega)
      | (refine verdict_ok ?_; unfold Keeps; simp; done)
      | (refine verdict_no ?_; unfold Keeps; simp; omega)
set_option maxRecDepth 8000 in
set_option maxHeartbeats 1000000 in
theorem rchk_v0 (k o c l r v : Int) (w : World) (k0 : 0 ≤ k) (k1 : k ≤ 10) (h3 : k ≠ 3) (ha : nA k = false) (hb : nB k = false) (hc : nC k = false) (hd : nD k = false) :
    Calls Tryd.prog 32 #[.agg #[.int .i64 k, .int .i64 o, .int .i64 c, .int .i64 l, .int .i64 r, .int .i64 v]] w fun e w' => e = .returned (.int .i64 (verdict false false false false 0 o c l r v)) ∧ Below w.heap.size w w' := by
  have HN : Hid (∀ w : World, Calls Tryd.prog 43 #[.int .i64 k] w fun e w' => e = .returned (.tuple #[.bool false, .bool false, .bool false, .bool false]) ∧ w = w') := by
    refine Lib.hid fun w => ?_
    have := names_any k w
    rw [ha, hb, hc, hd] at this
    exact this
  clear ha hb hc hd
  have d3 : (k == 3) = false := by simpa using h3
  clear h3
  go_enter Tryd.func32, Tryd.ntmps32
  go_wp2_with (go_at_call 43; refine (HN.out _).mono ?_; rintro e w' ⟨rfl, rfl⟩)
  all_goals
    go_ret
    refine ⟨ret_v ?_, (Below.refl _ _).alloc (Nat.le_refl _) _⟩
    clear HN
    try simp only [bne_iff_ne, bne_eq_false_iff_eq, ne_eq] at *
    first
      | (refine verdict_ok ?_; unfold Keeps; simp; omega)
      | (refine verdict_ok ?_; unfold Keeps; simp; done)
      | (refine verdict_no ?_; unfold Keeps; simp; omega)
end Go.Proofs.YtjolojomgfcfbaaDoor

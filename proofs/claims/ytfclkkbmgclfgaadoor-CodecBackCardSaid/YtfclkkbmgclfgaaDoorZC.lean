/- codec: the fields of a key. -/
import Derived.Test.YtfclkkbmgclfgaaDoorZB
import Derived.Test.YtfclkkbmgclfgaaDoorZO
import Derived.LoopN
namespace Go.Proofs.YtfclkkbmgclfgaaDoor
open Go.RowKit
/-- cells in the midst of others -/
abbrev mid (a m b : List Value) : Array Value := (a ++ m ++ b).toArray
set_option maxRecDepth 8000 in
theorem mid_get {a m b : List Value} {o : Nat} (ho : a.length = o) {j : Nat} (hj : j < m.length) : (mid a m b)[o + j]? = m[j]? := by
  subst ho
  rw [List.getElem?_toArray, List.append_assoc, List.getElem?_append_right (by omega), Nat.add_sub_cancel_left, List.getElem?_append_left hj]
set_option maxRecDepth 8000 in
theorem mid_set {a m b : List Value} {o : Nat} (ho : a.length = o) {j : Nat} (hj : j < m.length) (v : Value) : (mid a m b).setIfInBounds (o + j) v = mid a (m.set j v) b := by
  subst ho
  rw [List.setIfInBounds_toArray, List.append_assoc, List.set_append_right _ _ (by omega), Nat.add_sub_cancel_left, List.set_append_left _ _ hj, ← List.append_assoc]
def b0 (l : List UInt8) : UInt8 := l.getD 0 0
/-- the key that bytes tell -/
def kof (l : List UInt8) : Ky where
  k := (b0 l).toNat
  o := numLE ((l.drop 2).take 2)
  c := numLE ((l.drop 4).take 4)
  l := numLE ((l.drop 8).take 4)
  r := (b0 (l.drop 1)).toNat
  v := sg (numLE ((l.drop 12).take 8))
/-- a key's numbers have bytes -/
structure Ky.fit (x : Ky) : Prop where
  k : 0 ≤ x.k ∧ x.k < 256
  r : 0 ≤ x.r ∧ x.r < 256
  o : 0 ≤ x.o ∧ x.o < 65536
  c : 0 ≤ x.c ∧ x.c < 4294967296
  l : 0 ≤ x.l ∧ x.l < 4294967296
  v : -9223372036854775808 ≤ x.v ∧ x.v ≤ 9223372036854775807
/-- a key's bytes -/
def kbs (x : Ky) : List UInt8 := [UInt8.ofNat x.k.toNat] ++ ([UInt8.ofNat x.r.toNat] ++ (bytesLE 2 x.o.toNat ++ (bytesLE 4 x.c.toNat ++ (bytesLE 4 x.l.toNat ++ bytesLE 8 (un x.v)))))
set_option maxRecDepth 8000 in
theorem kbs_length (x : Ky) : (kbs x).length = 20 := by simp [kbs, bytesLE_length]
set_option maxRecDepth 8000 in
theorem byte_of {v : Int} (h : 0 ≤ v ∧ v < 256) : Value.int .i64 v = .int .i64 ((UInt8.ofNat v.toNat).toNat : Int) := by
  congr 1
  simp
  omega
set_option maxRecDepth 8000 in
theorem nat_of {v : Int} (h : 0 ≤ v) : Value.int .i64 v = .int .i64 (v.toNat : Int) := by
  congr 1
  omega
set_option maxRecDepth 8000 in
theorem smallK_r' (g s K i : Nat) (tk : TypeId) (l : List UInt8) (cs : Array Value) (w : World) (hW : RdAt w g s l) (hK : Blk w K tk cs) (hv : cs[i]? = some (.int .i64 0)) (h1 : 1 ≤ l.length) (hg : K ≠ g) (hs : K ≠ s) :
    Calls Tryd.prog 42 #[rdi g, .pointer (some ⟨K, i, none⟩)] w fun e w' => e = .returned (.tuple #[]) ∧ RdAt w' g s (l.drop 1) ∧ Blk w' K tk (cs.setIfInBounds i (.int .i64 ((b0 l).toNat : Int))) ∧ Fr (fun j => j = g ∨ j = K) w w' := by
  cases l with
  | nil => simp at h1
  | cons x l => exact smallK_r g s K i tk x l cs w hW hK hv hg hs
set_option maxRecDepth 8000 in
theorem smallK_no' (g s K i : Nat) (tk : TypeId) (l : List UInt8) (cs : Array Value) (w : World) (hW : RdAt w g s l) (hK : Blk w K tk cs) (hv : cs[i]? = some (.int .i64 0)) (h1 : l.length < 1) :
    Calls Tryd.prog 42 #[rdi g, .pointer (some ⟨K, i, none⟩)] w fun e w' => e = .panicked (erc 151) ∧ Below w.heap.size w w' := by
  cases l with
  | nil => exact smallK_no g s K i tk cs w hW hK hv
  | cons x l => simp at h1
set_option maxRecDepth 8000 in
theorem smallR_r' (g s K i : Nat) (tk : TypeId) (l : List UInt8) (cs : Array Value) (w : World) (hW : RdAt w g s l) (hK : Blk w K tk cs) (hv : cs[i]? = some (.int .i64 0)) (h1 : 1 ≤ l.length) (hg : K ≠ g) (hs : K ≠ s) :
    Calls Tryd.prog 44 #[rdi g, .pointer (some ⟨K, i, none⟩)] w fun e w' => e = .returned (.tuple #[]) ∧ RdAt w' g s (l.drop 1) ∧ Blk w' K tk (cs.setIfInBounds i (.int .i64 ((b0 l).toNat : Int))) ∧ Fr (fun j => j = g ∨ j = K) w w' := by
  cases l with
  | nil => simp at h1
  | cons x l => exact smallR_r g s K i tk x l cs w hW hK hv hg hs
set_option maxRecDepth 8000 in
theorem smallR_no' (g s K i : Nat) (tk : TypeId) (l : List UInt8) (cs : Array Value) (w : World) (hW : RdAt w g s l) (hK : Blk w K tk cs) (hv : cs[i]? = some (.int .i64 0)) (h1 : l.length < 1) :
    Calls Tryd.prog 44 #[rdi g, .pointer (some ⟨K, i, none⟩)] w fun e w' => e = .panicked (erc 151) ∧ Below w.heap.size w w' := by
  cases l with
  | nil => exact smallR_no g s K i tk cs w hW hK hv
  | cons x l => simp at h1
set_option maxRecDepth 8000 in
theorem smallO_r' (g s K i : Nat) (tk : TypeId) (l : List UInt8) (cs : Array Value) (w : World) (hW : RdAt w g s l) (hK : Blk w K tk cs) (hv : cs[i]? = some (.int .i64 0)) (h1 : 1 ≤ l.length) (hg : K ≠ g) (hs : K ≠ s) :
    Calls Tryd.prog 54 #[rdi g, .pointer (some ⟨K, i, none⟩)] w fun e w' => e = .returned (.tuple #[]) ∧ RdAt w' g s (l.drop 1) ∧ Blk w' K tk (cs.setIfInBounds i (.int .i64 ((b0 l).toNat : Int))) ∧ Fr (fun j => j = g ∨ j = K) w w' := by
  cases l with
  | nil => simp at h1
  | cons x l => exact smallO_r g s K i tk x l cs w hW hK hv hg hs
set_option maxRecDepth 8000 in
theorem smallO_no' (g s K i : Nat) (tk : TypeId) (l : List UInt8) (cs : Array Value) (w : World) (hW : RdAt w g s l) (hK : Blk w K tk cs) (hv : cs[i]? = some (.int .i64 0)) (h1 : l.length < 1) :
    Calls Tryd.prog 54 #[rdi g, .pointer (some ⟨K, i, none⟩)] w fun e w' => e = .panicked (erc 151) ∧ Below w.heap.size w w' := by
  cases l with
  | nil => exact smallO_no g s K i tk cs w hW hK hv
  | cons x l => simp at h1
set_option maxRecDepth 8000 in
theorem kf0_w (g B K o : Nat) (t tk : TypeId) (n : Nat) (d : List UInt8) (x : UInt8) (a m b : List Value) (w : World) (hW : WrAt w g B t n d) (ho : a.length = o) (hm : m.length = 6) (hK : Blk w K tk (mid a m b)) (hv : m[0]? = some (.int .i64 (x.toNat : Int))) (hfit : d.length + 1 ≤ n) (hg : K ≠ g) (hB : K ≠ B) :
    Calls Tryd.prog 41 #[wri g, .pointer (some ⟨K, o, none⟩)] w fun e w' => e = .returned (.tuple #[]) ∧ WrAt w' g B t n (d ++ [x]) ∧ Blk w' K tk (mid a m b) ∧ Fr (fun j => j = g ∨ j = B ∨ j = K) w w' := by
  have hq := ((mid_get (m := m) (b := b) ho (j := 0) (by rw [hm]; decide)).trans hv)
  have HW := Lib.hid hW
  have HK := Lib.hid hK
  have HQ := Lib.hid hq
  clear hW hK hv hq
  go_enter Tryd.func41, Tryd.ntmps41
  go_wp2_with (go_at_call 42; refine (smallK_w g B K (o) t tk n d x (mid a m b) _ HW.out HK.out HQ.out hfit hg hB).mono ?_; rintro e w1 ⟨rfl, h1, h2, h3⟩)
  go_end0
  exact ⟨rfl, h1, h2, h3⟩
set_option maxRecDepth 8000 in
theorem kf0_r (g s K o : Nat) (tk : TypeId) (l : List UInt8) (a m b : List Value) (w : World) (hW : RdAt w g s l) (ho : a.length = o) (hm : m.length = 6) (hK : Blk w K tk (mid a m b)) (hv : m[0]? = some (.int .i64 0)) (hl : 1 ≤ l.length) (hg : K ≠ g) (hs : K ≠ s) :
    Calls Tryd.prog 41 #[rdi g, .pointer (some ⟨K, o, none⟩)] w fun e w' => e = .returned (.tuple #[]) ∧ RdAt w' g s (l.drop 1) ∧ Blk w' K tk (mid a (m.set 0 (.int .i64 ((b0 l).toNat : Int))) b) ∧ Fr (fun j => j = g ∨ j = K) w w' := by
  have hq := ((mid_get (m := m) (b := b) ho (j := 0) (by rw [hm]; decide)).trans hv)
  have HW := Lib.hid hW
  have HK := Lib.hid hK
  have HQ := Lib.hid hq
  have HS := Lib.hid (fun (v : Value) => mid_set (m := m) (b := b) ho (j := 0) (by rw [hm]; decide) v)
  clear hW hK hv hq
  go_enter Tryd.func41, Tryd.ntmps41
  go_wp2_with (go_at_call 42; refine (smallK_r' g s K (o) tk l (mid a m b) _ HW.out HK.out HQ.out hl hg hs).mono ?_; rintro e w1 ⟨rfl, h1, h2, h3⟩)
  go_end0
  have h4 := HS.out (.int .i64 ((b0 l).toNat : Int))
  exact ⟨rfl, h1, h4 ▸ h2, h3⟩
set_option maxRecDepth 8000 in
theorem kf0_no (g s K o : Nat) (tk : TypeId) (l : List UInt8) (a m b : List Value) (w : World) (hW : RdAt w g s l) (ho : a.length = o) (hm : m.length = 6) (hK : Blk w K tk (mid a m b)) (hv : m[0]? = some (.int .i64 0)) (hl : l.length < 1) :
    Calls Tryd.prog 41 #[rdi g, .pointer (some ⟨K, o, none⟩)] w fun e w' => e = .panicked (erc 151) ∧ Fr (fun j => j = g) w w' := by
  have hq := ((mid_get (m := m) (b := b) ho (j := 0) (by rw [hm]; decide)).trans hv)
  have HW := Lib.hid hW
  have HK := Lib.hid hK
  have HQ := Lib.hid hq
  clear hW hK hv hq
  go_enter Tryd.func41, Tryd.ntmps41
  go_wp2_with (go_at_call 42; refine (smallK_no' g s K (o) tk l (mid a m b) _ HW.out HK.out HQ.out hl).mono ?_; rintro e w1 ⟨rfl, h1⟩)
  exact ⟨rfl, rfl, Fr.of_below h1⟩
set_option maxRecDepth 8000 in
theorem kf1_w (g B K o : Nat) (t tk : TypeId) (n : Nat) (d : List UInt8) (x : UInt8) (a m b : List Value) (w : World) (hW : WrAt w g B t n d) (ho : a.length = o) (hm : m.length = 6) (hK : Blk w K tk (mid a m b)) (hv : m[4]? = some (.int .i64 (x.toNat : Int))) (hfit : d.length + 1 ≤ n) (hg : K ≠ g) (hB : K ≠ B) :
    Calls Tryd.prog 43 #[wri g, .pointer (some ⟨K, o, none⟩)] w fun e w' => e = .returned (.tuple #[]) ∧ WrAt w' g B t n (d ++ [x]) ∧ Blk w' K tk (mid a m b) ∧ Fr (fun j => j = g ∨ j = B ∨ j = K) w w' := by
  have hq := ((mid_get (m := m) (b := b) ho (j := 4) (by rw [hm]; decide)).trans hv)
  have HW := Lib.hid hW
  have HK := Lib.hid hK
  have HQ := Lib.hid hq
  clear hW hK hv hq
  go_enter Tryd.func43, Tryd.ntmps43
  go_wp2_with (go_at_call 44; refine (smallR_w g B K (o + 4) t tk n d x (mid a m b) _ HW.out HK.out HQ.out hfit hg hB).mono ?_; rintro e w1 ⟨rfl, h1, h2, h3⟩)
  go_end0
  exact ⟨rfl, h1, h2, h3⟩
set_option maxRecDepth 8000 in
theorem kf1_r (g s K o : Nat) (tk : TypeId) (l : List UInt8) (a m b : List Value) (w : World) (hW : RdAt w g s l) (ho : a.length = o) (hm : m.length = 6) (hK : Blk w K tk (mid a m b)) (hv : m[4]? = some (.int .i64 0)) (hl : 1 ≤ l.length) (hg : K ≠ g) (hs : K ≠ s) :
    Calls Tryd.prog 43 #[rdi g, .pointer (some ⟨K, o, none⟩)] w fun e w' => e = .returned (.tuple #[]) ∧ RdAt w' g s (l.drop 1) ∧ Blk w' K tk (mid a (m.set 4 (.int .i64 ((b0 l).toNat : Int))) b) ∧ Fr (fun j => j = g ∨ j = K) w w' := by
  have hq := ((mid_get (m := m) (b := b) ho (j := 4) (by rw [hm]; decide)).trans hv)
  have HW := Lib.hid hW
  have HK := Lib.hid hK
  have HQ := Lib.hid hq
  have HS := Lib.hid (fun (v : Value) => mid_set (m := m) (b := b) ho (j := 4) (by rw [hm]; decide) v)
  clear hW hK hv hq
  go_enter Tryd.func43, Tryd.ntmps43
  go_wp2_with (go_at_call 44; refine (smallR_r' g s K (o + 4) tk l (mid a m b) _ HW.out HK.out HQ.out hl hg hs).mono ?_; rintro e w1 ⟨rfl, h1, h2, h3⟩)
  go_end0
  have h4 := HS.out (.int .i64 ((b0 l).toNat : Int))
  exact ⟨rfl, h1, h4 ▸ h2, h3⟩
set_option maxRecDepth 8000 in
theorem kf1_no (g s K o : Nat) (tk : TypeId) (l : List UInt8) (a m b : List Value) (w : World) (hW : RdAt w g s l) (ho : a.length = o) (hm : m.length = 6) (hK : Blk w K tk (mid a m b)) (hv : m[4]? = some (.int .i64 0)) (hl : l.length < 1) :
    Calls Tryd.prog 43 #[rdi g, .pointer (some ⟨K, o, none⟩)] w fun e w' => e = .panicked (erc 151) ∧ Fr (fun j => j = g) w w' := by
  have hq := ((mid_get (m := m) (b := b) ho (j := 4) (by rw [hm]; decide)).trans hv)
  have HW := Lib.hid hW
  have HK := Lib.hid hK
  have HQ := Lib.hid hq
  clear hW hK hv hq
  go_enter Tryd.func43, Tryd.ntmps43
  go_wp2_with (go_at_call 44; refine (smallR_no' g s K (o + 4) tk l (mid a m b) _ HW.out HK.out HQ.out hl).mono ?_; rintro e w1 ⟨rfl, h1⟩)
  exact ⟨rfl, rfl, Fr.of_below h1⟩
set_option maxRecDepth 8000 in
theorem kf2_w (g B K o : Nat) (t tk : TypeId) (n : Nat) (d : List UInt8) (N : Nat) (a m b : List Value) (w : World) (hW : WrAt w g B t n d) (ho : a.length = o) (hm : m.length = 6) (hK : Blk w K tk (mid a m b)) (hv : m[1]? = some (.int .i64 (N : Int))) (hN : N < 256 ^ 2) (hfit : d.length + 2 ≤ n) (hg : K ≠ g) (hB : K ≠ B) :
    Calls Tryd.prog 45 #[wri g, .pointer (some ⟨K, o, none⟩)] w fun e w' => e = .returned (.tuple #[]) ∧ WrAt w' g B t n (d ++ bytesLE 2 N) ∧ Blk w' K tk (mid a m b) ∧ Fr (fun j => j = g ∨ j = B ∨ j = K) w w' := by
  have hq := ((mid_get (m := m) (b := b) ho (j := 1) (by rw [hm]; decide)).trans hv)
  have HW := Lib.hid hW
  have HK := Lib.hid hK
  have HQ := Lib.hid hq
  clear hW hK hv hq
  go_enter Tryd.func45, Tryd.ntmps45
  go_wp2_with (go_at_call 46; refine (numberI_w2 g B K (o + 1) t tk n d N (mid a m b) _ HW.out HK.out HQ.out hN hfit hg hB).mono ?_; rintro e w1 ⟨rfl, h1, h2, h3⟩)
  go_end0
  exact ⟨rfl, h1, h2, h3⟩
set_option maxRecDepth 8000 in
theorem kf2_r (g s K o : Nat) (tk : TypeId) (l : List UInt8) (a m b : List Value) (w : World) (hW : RdAt w g s l) (ho : a.length = o) (hm : m.length = 6) (hK : Blk w K tk (mid a m b)) (hv : m[1]? = some (.int .i64 0)) (hl : 2 ≤ l.length) (hg : K ≠ g) (hs : K ≠ s) :
    Calls Tryd.prog 45 #[rdi g, .pointer (some ⟨K, o, none⟩)] w fun e w' => e = .returned (.tuple #[]) ∧ RdAt w' g s (l.drop 2) ∧ Blk w' K tk (mid a (m.set 1 (.int .i64 (numLE (l.take 2) : Int))) b) ∧ Fr (fun j => j = g ∨ j = K) w w' := by
  have hq := ((mid_get (m := m) (b := b) ho (j := 1) (by rw [hm]; decide)).trans hv)
  have HW := Lib.hid hW
  have HK := Lib.hid hK
  have HQ := Lib.hid hq
  have HS := Lib.hid (fun (v : Value) => mid_set (m := m) (b := b) ho (j := 1) (by rw [hm]; decide) v)
  clear hW hK hv hq
  go_enter Tryd.func45, Tryd.ntmps45
  go_wp2_with (go_at_call 46; refine (numberI_r2 g s K (o + 1) tk l (mid a m b) _ HW.out HK.out HQ.out hl hg hs).mono ?_; rintro e w1 ⟨rfl, h1, h2, h3⟩)
  go_end0
  have h4 := HS.out (.int .i64 (numLE (l.take 2) : Int))
  exact ⟨rfl, h1, h4 ▸ h2, h3⟩
set_option maxRecDepth 8000 in
theorem kf2_no (g s K o : Nat) (tk : TypeId) (l : List UInt8) (a m b : List Value) (w : World) (hW : RdAt w g s l) (ho : a.length = o) (hm : m.length = 6) (hK : Blk w K tk (mid a m b)) (hv : m[1]? = some (.int .i64 0)) (hl : l.length < 2) :
    Calls Tryd.prog 45 #[rdi g, .pointer (some ⟨K, o, none⟩)] w fun e w' => e = .panicked (erc 151) ∧ Fr (fun j => j = g) w w' := by
  have hq := ((mid_get (m := m) (b := b) ho (j := 1) (by rw [hm]; decide)).trans hv)
  have HW := Lib.hid hW
  have HK := Lib.hid hK
  have HQ := Lib.hid hq
  clear hW hK hv hq
  go_enter Tryd.func45, Tryd.ntmps45
  go_wp2_with (go_at_call 46; refine (numberI_no2 g s K (o + 1) tk l (mid a m b) _ HW.out HK.out HQ.out hl).mono ?_; rintro e w1 ⟨rfl, h1⟩)
  exact ⟨rfl, rfl, Fr.of_below h1⟩
set_option maxRecDepth 8000 in
theorem kf3_w (g B K o : Nat) (t tk : TypeId) (n : Nat) (d : List UInt8) (N : Nat) (a m b : List Value) (w : World) (hW : WrAt w g B t n d) (ho : a.length = o) (hm : m.length = 6) (hK : Blk w K tk (mid a m b)) (hv : m[2]? = some (.int .i64 (N : Int))) (hN : N < 256 ^ 4) (hfit : d.length + 4 ≤ n) (hg : K ≠ g) (hB : K ≠ B) :
    Calls Tryd.prog 47 #[wri g, .pointer (some ⟨K, o, none⟩)] w fun e w' => e = .returned (.tuple #[]) ∧ WrAt w' g B t n (d ++ bytesLE 4 N) ∧ Blk w' K tk (mid a m b) ∧ Fr (fun j => j = g ∨ j = B ∨ j = K) w w' := by
  have hq := ((mid_get (m := m) (b := b) ho (j := 2) (by rw [hm]; decide)).trans hv)
  have HW := Lib.hid hW
  have HK := Lib.hid hK
  have HQ := Lib.hid hq
  clear hW hK hv hq
  go_enter Tryd.func47, Tryd.ntmps47
  go_wp2_with (go_at_call 48; refine (numberL_w4 g B K (o + 2) t tk n d N (mid a m b) _ HW.out HK.out HQ.out hN hfit hg hB).mono ?_; rintro e w1 ⟨rfl, h1, h2, h3⟩)
  go_end0
  exact ⟨rfl, h1, h2, h3⟩
set_option maxRecDepth 8000 in
theorem kf3_r (g s K o : Nat) (tk : TypeId) (l : List UInt8) (a m b : List Value) (w : World) (hW : RdAt w g s l) (ho : a.length = o) (hm : m.length = 6) (hK : Blk w K tk (mid a m b)) (hv : m[2]? = some (.int .i64 0)) (hl : 4 ≤ l.length) (hg : K ≠ g) (hs : K ≠ s) :
    Calls Tryd.prog 47 #[rdi g, .pointer (some ⟨K, o, none⟩)] w fun e w' => e = .returned (.tuple #[]) ∧ RdAt w' g s (l.drop 4) ∧ Blk w' K tk (mid a (m.set 2 (.int .i64 (numLE (l.take 4) : Int))) b) ∧ Fr (fun j => j = g ∨ j = K) w w' := by
  have hq := ((mid_get (m := m) (b := b) ho (j := 2) (by rw [hm]; decide)).trans hv)
  have HW := Lib.hid hW
  have HK := Lib.hid hK
  have HQ := Lib.hid hq
  have HS := Lib.hid (fun (v : Value) => mid_set (m := m) (b := b) ho (j := 2) (by rw [hm]; decide) v)
  clear hW hK hv hq
  go_enter Tryd.func47, Tryd.ntmps47
  go_wp2_with (go_at_call 48; refine (numberL_r4 g s K (o + 2) tk l (mid a m b) _ HW.out HK.out HQ.out hl hg hs).mono ?_; rintro e w1 ⟨rfl, h1, h2, h3⟩)
  go_end0
  have h4 := HS.out (.int .i64 (numLE (l.take 4) : Int))
  exact ⟨rfl, h1, h4 ▸ h2, h3⟩
set_option maxRecDepth 8000 in
theorem kf3_no (g s K o : Nat) (tk : TypeId) (l : List UInt8) (a m b : List Value) (w : World) (hW : RdAt w g s l) (ho : a.length = o) (hm : m.length = 6) (hK : Blk w K tk (mid a m b)) (hv : m[2]? = some (.int .i64 0)) (hl : l.length < 4) :
    Calls Tryd.prog 47 #[rdi g, .pointer (some ⟨K, o, none⟩)] w fun e w' => e = .panicked (erc 151) ∧ Fr (fun j => j = g) w w' := by
  have hq := ((mid_get (m := m) (b := b) ho (j := 2) (by rw [hm]; decide)).trans hv)
  have HW := Lib.hid hW
  have HK := Lib.hid hK
  have HQ := Lib.hid hq
  clear hW hK hv hq
  go_enter Tryd.func47, Tryd.ntmps47
  go_wp2_with (go_at_call 48; refine (numberL_no4 g s K (o + 2) tk l (mid a m b) _ HW.out HK.out HQ.out hl).mono ?_; rintro e w1 ⟨rfl, h1⟩)
  exact ⟨rfl, rfl, Fr.of_below h1⟩
set_option maxRecDepth 8000 in
theorem kf4_w (g B K o : Nat) (t tk : TypeId) (n : Nat) (d : List UInt8) (N : Nat) (a m b : List Value) (w : World) (hW : WrAt w g B t n d) (ho : a.length = o) (hm : m.length = 6) (hK : Blk w K tk (mid a m b)) (hv : m[3]? = some (.int .i64 (N : Int))) (hN : N < 256 ^ 4) (hfit : d.length + 4 ≤ n) (hg : K ≠ g) (hB : K ≠ B) :
    Calls Tryd.prog 49 #[wri g, .pointer (some ⟨K, o, none⟩)] w fun e w' => e = .returned (.tuple #[]) ∧ WrAt w' g B t n (d ++ bytesLE 4 N) ∧ Blk w' K tk (mid a m b) ∧ Fr (fun j => j = g ∨ j = B ∨ j = K) w w' := by
  have hq := ((mid_get (m := m) (b := b) ho (j := 3) (by rw [hm]; decide)).trans hv)
  have HW := Lib.hid hW
  have HK := Lib.hid hK
  have HQ := Lib.hid hq
  clear hW hK hv hq
  go_enter Tryd.func49, Tryd.ntmps49
  go_wp2_with (go_at_call 48; refine (numberL_w4 g B K (o + 3) t tk n d N (mid a m b) _ HW.out HK.out HQ.out hN hfit hg hB).mono ?_; rintro e w1 ⟨rfl, h1, h2, h3⟩)
  go_end0
  exact ⟨rfl, h1, h2, h3⟩
set_option maxRecDepth 8000 in
theorem kf4_r (g s K o : Nat) (tk : TypeId) (l : List UInt8) (a m b : List Value) (w : World) (hW : RdAt w g s l) (ho : a.length = o) (hm : m.length = 6) (hK : Blk w K tk (mid a m b)) (hv : m[3]? = some (.int .i64 0)) (hl : 4 ≤ l.length) (hg : K ≠ g) (hs : K ≠ s) :
    Calls Tryd.prog 49 #[rdi g, .pointer (some ⟨K, o, none⟩)] w fun e w' => e = .returned (.tuple #[]) ∧ RdAt w' g s (l.drop 4) ∧ Blk w' K tk (mid a (m.set 3 (.int .i64 (numLE (l.take 4) : Int))) b) ∧ Fr (fun j => j = g ∨ j = K) w w' := by
  have hq := ((mid_get (m := m) (b := b) ho (j := 3) (by rw [hm]; decide)).trans hv)
  have HW := Lib.hid hW
  have HK := Lib.hid hK
  have HQ := Lib.hid hq
  have HS := Lib.hid (fun (v : Value) => mid_set (m := m) (b := b) ho (j := 3) (by rw [hm]; decide) v)
  clear hW hK hv hq
  go_enter Tryd.func49, Tryd.ntmps49
  go_wp2_with (go_at_call 48; refine (numberL_r4 g s K (o + 3) tk l (mid a m b) _ HW.out HK.out HQ.out hl hg hs).mono ?_; rintro e w1 ⟨rfl, h1, h2, h3⟩)
  go_end0
  have h4 := HS.out (.int .i64 (numLE (l.take 4) : Int))
  exact ⟨rfl, h1, h4 ▸ h2, h3⟩
set_option maxRecDepth 8000 in
theorem kf4_no (g s K o : Nat) (tk : TypeId) (l : List UInt8) (a m b : List Value) (w : World) (hW : RdAt w g s l) (ho : a.length = o) (hm : m.length = 6) (hK : Blk w K tk (mid a m b)) (hv : m[3]? = some (.int .i64 0)) (hl : l.length < 4) :
    Calls Tryd.prog 49 #[rdi g, .pointer (some ⟨K, o, none⟩)] w fun e w' => e = .panicked (erc 151) ∧ Fr (fun j => j = g) w w' := by
  have hq := ((mid_get (m := m) (b := b) ho (j := 3) (by rw [hm]; decide)).trans hv)
  have HW := Lib.hid hW
  have HK := Lib.hid hK
  have HQ := Lib.hid hq
  clear hW hK hv hq
  go_enter Tryd.func49, Tryd.ntmps49
  go_wp2_with (go_at_call 48; refine (numberL_no4 g s K (o + 3) tk l (mid a m b) _ HW.out HK.out HQ.out hl).mono ?_; rintro e w1 ⟨rfl, h1⟩)
  exact ⟨rfl, rfl, Fr.of_below h1⟩
set_option maxRecDepth 8000 in
theorem kf5_w (g B K o : Nat) (t tk : TypeId) (n : Nat) (d : List UInt8) (v : Int) (a m b : List Value) (w : World) (hW : WrAt w g B t n d) (ho : a.length = o) (hm : m.length = 6) (hK : Blk w K tk (mid a m b)) (hv : m[5]? = some (.int .i64 v)) (hlo : -9223372036854775808 ≤ v) (hhi : v ≤ 9223372036854775807) (hfit : d.length + 8 ≤ n) (hg : K ≠ g) (hB : K ≠ B) :
    Calls Tryd.prog 50 #[wri g, .pointer (some ⟨K, o, none⟩)] w fun e w' => e = .returned (.tuple #[]) ∧ WrAt w' g B t n (d ++ bytesLE 8 (un v)) ∧ Blk w' K tk (mid a m b) ∧ Fr (fun j => j = g ∨ j = B ∨ j = K) w w' := by
  have hq := ((mid_get (m := m) (b := b) ho (j := 5) (by rw [hm]; decide)).trans hv)
  have HW := Lib.hid hW
  have HK := Lib.hid hK
  have HQ := Lib.hid hq
  clear hW hK hv hq
  go_enter Tryd.func50, Tryd.ntmps50
  go_wp2_with (go_at_call 51; refine (signed_w g B K (o + 5) t tk n d v (mid a m b) _ HW.out HK.out HQ.out hlo hhi hfit hg hB).mono ?_; rintro e w1 ⟨rfl, h1, h2, h3⟩)
  go_end0
  exact ⟨rfl, h1, h2, h3⟩
set_option maxRecDepth 8000 in
theorem kf5_r (g s K o : Nat) (tk : TypeId) (l : List UInt8) (a m b : List Value) (w : World) (hW : RdAt w g s l) (ho : a.length = o) (hm : m.length = 6) (hK : Blk w K tk (mid a m b)) (hv : m[5]? = some (.int .i64 0)) (hl : 8 ≤ l.length) (hg : K ≠ g) (hs : K ≠ s) :
    Calls Tryd.prog 50 #[rdi g, .pointer (some ⟨K, o, none⟩)] w fun e w' => e = .returned (.tuple #[]) ∧ RdAt w' g s (l.drop 8) ∧ Blk w' K tk (mid a (m.set 5 (.int .i64 (sg (numLE (l.take 8))))) b) ∧ Fr (fun j => j = g ∨ j = K) w w' := by
  have hq := ((mid_get (m := m) (b := b) ho (j := 5) (by rw [hm]; decide)).trans hv)
  have HW := Lib.hid hW
  have HK := Lib.hid hK
  have HQ := Lib.hid hq
  have HS := Lib.hid (fun (v : Value) => mid_set (m := m) (b := b) ho (j := 5) (by rw [hm]; decide) v)
  clear hW hK hv hq
  go_enter Tryd.func50, Tryd.ntmps50
  go_wp2_with (go_at_call 51; refine (signed_r g s K (o + 5) tk l (mid a m b) _ HW.out HK.out HQ.out hl hg hs).mono ?_; rintro e w1 ⟨rfl, h1, h2, h3⟩)
  go_end0
  have h4 := HS.out (.int .i64 (sg (numLE (l.take 8))))
  exact ⟨rfl, h1, h4 ▸ h2, h3⟩
set_option maxRecDepth 8000 in
theorem kf5_no (g s K o : Nat) (tk : TypeId) (l : List UInt8) (a m b : List Value) (w : World) (hW : RdAt w g s l) (ho : a.length = o) (hm : m.length = 6) (hK : Blk w K tk (mid a m b)) (hv : m[5]? = some (.int .i64 0)) (hl : l.length < 8) (hg : K ≠ g) (hs : K ≠ s) :
    Calls Tryd.prog 50 #[rdi g, .pointer (some ⟨K, o, none⟩)] w fun e w' => e = .panicked (erc 151) ∧ Fr (fun j => j = g) w w' := by
  have hq := ((mid_get (m := m) (b := b) ho (j := 5) (by rw [hm]; decide)).trans hv)
  have HW := Lib.hid hW
  have HK := Lib.hid hK
  have HQ := Lib.hid hq
  clear hW hK hv hq
  go_enter Tryd.func50, Tryd.ntmps50
  go_wp2_with (go_at_call 51; refine (signed_no g s K (o + 5) tk l (mid a m b) _ HW.out HK.out HQ.out hl hg hs).mono ?_; rintro e w1 ⟨rfl, h1⟩)
  exact ⟨rfl, rfl, h1⟩
end Go.Proofs.YtfclkkbmgclfgaaDoor
namespace Go.Proofs.YtfclkkbmgclfgaaDoor
open Go.RowKit
section
variable {P : Program} {ops : Array Oper} {rest : List Oper} {o : Oper} {a : Act} {Q : Exit → Act → World → Prop}
set_option maxRecDepth 8000 in
/-- the block that was made last is stored whole -/
theorem wpList_store_new {W : World} {t : TypeId} (hgd : o.guard = none) (ty : TypeId) (x y : Operand) (ho : o.op = .store ty x y) (b : Nat) (hb : b = W.heap.size) (hx : a.eval x = .pointer (some ⟨b, 0, none⟩)) (cells old : Array Value) (hy : a.eval y = .agg cells)
    (hi : (P.info? ty).map (·.size) = some cells.size) (hold : old.size = cells.size) (h1 : cells.all (·.oneCell') = true)
    (h : wpList P ops Q rest (a.put o.dst undef) (W.alloc (.cells cells t))) : wpList P ops Q (o :: rest) a (W.alloc (.cells old t)) := by
  subst hb
  refine wpList_store_row hgd ty x y ho W.heap.size cells hx hy t old (heap_alloc_new W _) hi hold h1 ?_
  rw [World.setRow_alloc_new]
  exact h
set_option maxRecDepth 8000 in
theorem res_1 {fn : Func} {p : Tmp} {t : TypeId} (h : fn.results = #[.cell p t]) (tmps : Array Value) (w : World) (g : Nat) (v : Value) (hp : tmps.getD p undef = .pointer (some ⟨g, 0, none⟩)) (hl : (loadVar t ⟨g, 0, none⟩).run P w = .ok v w) : (results fn tmps).run P w = .ok v w := by
  have hp' : tmps[p]?.getD undef = .pointer (some ⟨g, 0, none⟩) := by simpa using hp
  simp [results, h, hp', asAddr, hl]
set_option maxRecDepth 8000 in
theorem res_1t {fn : Func} {p q : Tmp} {t : TypeId} (h : fn.results = #[.cell p t, .tmp q]) (tmps : Array Value) (w : World) (g : Nat) (v u : Value) (hp : tmps.getD p undef = .pointer (some ⟨g, 0, none⟩)) (hq : tmps.getD q undef = u) (hl : (loadVar t ⟨g, 0, none⟩).run P w = .ok v w) : (results fn tmps).run P w = .ok (.tuple #[v, u]) w := by
  have hp' : tmps[p]?.getD undef = .pointer (some ⟨g, 0, none⟩) := by simpa using hp
  have hq' : tmps[q]?.getD undef = u := by simpa using hq
  simp [results, h, hp', hq', asAddr, hl]
set_option maxRecDepth 8000 in
theorem res_t1 {fn : Func} {p q : Tmp} {t : TypeId} (h : fn.results = #[.tmp q, .cell p t]) (tmps : Array Value) (w : World) (g : Nat) (v u : Value) (hp : tmps.getD p undef = .pointer (some ⟨g, 0, none⟩)) (hq : tmps.getD q undef = u) (hl : (loadVar t ⟨g, 0, none⟩).run P w = .ok v w) : (results fn tmps).run P w = .ok (.tuple #[u, v]) w := by
  have hp' : tmps[p]?.getD undef = .pointer (some ⟨g, 0, none⟩) := by simpa using hp
  have hq' : tmps[q]?.getD undef = u := by simpa using hq
  simp [results, h, hp', hq', asAddr, hl]
set_option maxRecDepth 8000 in
theorem res_2 {fn : Func} {p q : Tmp} {t t' : TypeId} (h : fn.results = #[.cell p t, .cell q t']) (tmps : Array Value) (w : World) (g g' : Nat) (v v' : Value) (hp : tmps.getD p undef = .pointer (some ⟨g, 0, none⟩)) (hq : tmps.getD q undef = .pointer (some ⟨g', 0, none⟩)) (hl : (loadVar t ⟨g, 0, none⟩).run P w = .ok v w) (hl' : (loadVar t' ⟨g', 0, none⟩).run P w = .ok v' w) : (results fn tmps).run P w = .ok (.tuple #[v, v']) w := by
  have hp' : tmps[p]?.getD undef = .pointer (some ⟨g, 0, none⟩) := by simpa using hp
  have hq' : tmps[q]?.getD undef = .pointer (some ⟨g', 0, none⟩) := by simpa using hq
  simp [results, h, hp', hq', asAddr, hl, hl']
end
abbrev kfs : Array Value := #[.func (.func 41) #[] #[], .func (.func 43) #[] #[], .func (.func 45) #[] #[], .func (.func 47) #[] #[], .func (.func 49) #[] #[], .func (.func 50) #[] #[]]
set_option maxRecDepth 8000 in
theorem keyFields_any (w : World) : Calls Tryd.prog 29 #[] w fun e w' => e = .returned (.agg kfs) ∧ Below w.heap.size w w' := by
  have hs : (Tryd.prog.info? 84).map (·.size) = some kfs.size := by kernel_rfl
  have HS := Lib.hid hs
  have HA := Lib.hid (show kfs.all (·.oneCell') = true by kernel_rfl)
  have HB := Lib.hid ((Below.refl w.heap.size w).alloc (Nat.le_refl _) (.cells kfs 84))
  clear hs
  go_enter Tryd.func29, Tryd.ntmps29
  go_wp2_with (refine wpList_store_new rfl 84 (.tmp 0) (.tmp 1) rfl _ rfl rfl kfs #[.nilFunc, .nilFunc, .nilFunc, .nilFunc, .nilFunc, .nilFunc] rfl HS.out rfl HA.out ?_)
  exact bodyPost_ret (res_1 rfl _ _ w.heap.size (.agg kfs) rfl (run_loadVar_row _ _ 84 _ kfs (0, 0) _ (heap_alloc_new w _) Tryd.underlying84 rfl HS.out)) rfl ⟨rfl, HB.out⟩
end Go.Proofs.YtfclkkbmgclfgaaDoor

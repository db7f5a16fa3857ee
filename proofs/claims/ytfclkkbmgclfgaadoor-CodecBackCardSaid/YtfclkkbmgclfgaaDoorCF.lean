/- codec: small and number, by a writer, by a reader. -/
import Derived.Test.YtfclkkbmgclfgaaDoorZA
import Derived.Test.YtfclkkbmgclfgaaDoorZS
namespace Go.Proofs.YtfclkkbmgclfgaaDoor
open Go.RowKit
abbrev wri (g : Nat) : Value := .iface 54 (.pointer (some ⟨g, 0, none⟩))
abbrev rdi (g : Nat) : Value := .iface 62 (.pointer (some ⟨g, 0, none⟩))
set_option maxRecDepth 8000 in
theorem met_w (k : Nat) (a : Addr) (w : World) : (method (k + 8) 54 (.pointer (some a)) "chatelaine/codec.pass").run Tryd.prog w = .ok (91, .pointer (some a)) w := by kernel_rfl
set_option maxRecDepth 8000 in
theorem met_r (k : Nat) (a : Addr) (w : World) : (method (k + 8) 62 (.pointer (some a)) "chatelaine/codec.pass").run Tryd.prog w = .ok (93, .pointer (some a)) w := by kernel_rfl
set_option maxRecDepth 8000 in
theorem wrap_u8 (x : UInt8) : IntKind.u8.wrap (x.toNat : Int) = (x.toNat : Int) := by
  have := x.toNat_lt
  simp only [IntKind.wrap, IntKind.bits, IntKind.signed]
  simp
  omega
set_option maxRecDepth 8000 in
theorem wrap_i64u (x : UInt8) : IntKind.i64.wrap (x.toNat : Int) = (x.toNat : Int) := by
  have := x.toNat_lt
  exact wrap_i64_of _ (by omega) (by omega)
set_option maxRecDepth 8000 in
theorem set_same {cs : Array Value} {i : Nat} {v : Value} (h : cs[i]? = some v) : cs.setIfInBounds i v = cs := by
  apply Array.ext_getElem?
  intro j
  rw [Array.getElem?_setIfInBounds]
  by_cases hj : i = j
  · subst hj
    rw [if_pos rfl]
    have := (Array.getElem?_eq_some_iff.1 h).1
    rw [if_pos this]
    exact h.symm
  · rw [if_neg hj]
set_option maxRecDepth 8000 in
set_option maxHeartbeats 400000 in
theorem smallK_w (g B K i : Nat) (t tk : TypeId) (n : Nat) (d : List UInt8) (x : UInt8) (cs : Array Value) (w : World) (hW : WrAt w g B t n d) (hK : Blk w K tk cs) (hv : cs[i]? = some (.int .i64 (x.toNat : Int))) (hfit : d.length < n) (hg : K ≠ g) (hB : K ≠ B) :
    Calls Tryd.prog 42 #[wri g, .pointer (some ⟨K, i, none⟩)] w fun e w' => e = .returned (.tuple #[]) ∧ WrAt w' g B t n (d ++ [x]) ∧ Blk w' K tk cs ∧ Fr (fun j => j = g ∨ j = B ∨ j = K) w w' := by
  have hc0 := (hK.cell i).trans hv
  have hwr := wrap_u8 x
  have hwi := wrap_i64u x
  have hm := met_w
  have hx := x.toNat_lt
  have HW := Lib.hid hW
  have HK := Lib.hid hK
  have HV := Lib.hid hv
  have HN := Lib.hid (And.intro hg hB)
  have hl1 := hW.lt
  have hl2 := hW.ltB
  have hl3 := hK.lt
  clear hW hK hv
  go_enter Tryd.func42, Tryd.ntmps42
  go_wp2_with (go_at_call 91; refine (wpass g B t n d [x] _ 1 _ _ (HW.out.below ((Below.refl _ _).alloc (Nat.le_refl _) _)) rfl (by decide) (rd_one _ x _) hfit (by intro a h; injection h with h; subst h; show w.heap.size ≠ g; omega)).mono ?_; rintro e w1 ⟨rfl, hw1, hf1⟩; have hc1 := (hf1.cell (p := ⟨w.heap.size, 0, none⟩) (by simp) (by show ¬ (w.heap.size = g ∨ w.heap.size = B); omega)); have hK1 := (hf1.block K (by simp; omega) (by rintro (h | h); exact HN.out.1 h; exact HN.out.2 h)).trans (HK.out.alloc _); have hc2 := (Blk.cell hK1 i).trans HV.out; have hz2 := Blk.frozen hK1 i; simp at hc1; have H1 := Lib.hid hw1; have H2 := Lib.hid hf1; have H3 := Lib.hid hK1; clear hw1 hf1 hK1 hc0)
  go_end0
  have h3 := Blk.set_ H3.out i (.int .i64 (x.toNat : Int))
  rw [set_same HV.out] at h3
  have hf := H2.out.mono (T := fun j => j = g ∨ j = B ∨ j = K) (fun j _ h => h.elim .inl (fun h => .inr (.inl h)))
  have hf' := hf.setCell (p := ⟨K, i, none⟩) (fun _ => .inr (.inr rfl)) (.int .i64 (x.toNat : Int))
  exact ⟨rfl, H1.out.keep (Below.heap_setCell _ _ _ _ (fun e => HN.out.1 e.symm)) (Below.heap_setCell _ _ _ _ (fun e => HN.out.2 e.symm)), h3, ((Fr.refl _ w).alloc _).trans hf'⟩
set_option maxRecDepth 8000 in
set_option maxHeartbeats 400000 in
theorem smallK_r (g s K i : Nat) (tk : TypeId) (x : UInt8) (l : List UInt8) (cs : Array Value) (w : World) (hW : RdAt w g s (x :: l)) (hK : Blk w K tk cs) (hv : cs[i]? = some (.int .i64 0)) (hg : K ≠ g) (hs : K ≠ s) :
    Calls Tryd.prog 42 #[rdi g, .pointer (some ⟨K, i, none⟩)] w fun e w' => e = .returned (.tuple #[]) ∧ RdAt w' g s l ∧ Blk w' K tk (cs.setIfInBounds i (.int .i64 (x.toNat : Int))) ∧ Fr (fun j => j = g ∨ j = K) w w' := by
  have hc0 := (hK.cell i).trans hv
  have hwi := wrap_i64u x
  have hm := met_r
  have hx := x.toNat_lt
  have HW := Lib.hid hW
  have HK := Lib.hid hK
  have HV := Lib.hid hv
  have HN := Lib.hid (And.intro hg hs)
  have hl1 := hW.lt
  have hl2 := hW.lts
  have hl3 := hK.lt
  clear hW hK hv
  go_enter Tryd.func42, Tryd.ntmps42
  go_wp2_with (go_at_call 93; refine (rpass g s w.heap.size _ (x :: l) [.int .u8 0] 0 1 _ _ (HW.out.below ((Below.refl _ _).alloc (Nat.le_refl _) _)) (Blk.new _ _ _) (by simp) (by simp) (by omega) (by omega)).mono ?_; rintro e w1 ⟨rfl, hw1, hb1, hf1⟩; have hc1 := hb1.cell 0; have hK1 := (hf1.block K (by simp; omega) (by rintro (h | h); exact HN.out.1 h; omega)).trans (HK.out.alloc _); have hc2 := (Blk.cell hK1 i).trans HV.out; have hz2 := Blk.frozen hK1 i; simp [spl, bv] at hc1; have H1 := Lib.hid hw1; have H2 := Lib.hid hf1; have H3 := Lib.hid hK1; clear hw1 hf1 hK1 hc0 hb1)
  go_end0
  have hf := ((Fr.refl (fun j => j = g ∨ j = K) w).alloc (.cells #[.int .u8 0] 5)).then_ H2.out (fun j hj h => h.elim .inl (fun h => by omega))
  have hf' := hf.setCell (p := ⟨K, i, none⟩) (fun _ => .inr rfl) (.int .i64 (x.toNat : Int))
  have h1 := H1.out.fr ((Fr.refl (fun j => j = K) _).setCell (p := ⟨K, i, none⟩) (fun _ => rfl) (.int .i64 (x.toNat : Int))) (fun e => HN.out.1 e.symm) (fun e => HN.out.2 e.symm)
  exact ⟨rfl, h1, Blk.set_ H3.out i _, hf'⟩
set_option maxRecDepth 8000 in
theorem smallK_no (g s K i : Nat) (tk : TypeId) (cs : Array Value) (w : World) (hW : RdAt w g s []) (hK : Blk w K tk cs) (hv : cs[i]? = some (.int .i64 0)) :
    Calls Tryd.prog 42 #[rdi g, .pointer (some ⟨K, i, none⟩)] w fun e w' => e = .panicked (erc 151) ∧ Below w.heap.size w w' := by
  have hc0 := (hK.cell i).trans hv
  have hm := met_r
  have HW := Lib.hid hW
  clear hW hK hv
  go_enter Tryd.func42, Tryd.ntmps42
  go_wp2_with (go_at_call 93; refine (rpass_no g s [] _ 1 _ _ (HW.out.below ((Below.refl _ _).alloc (Nat.le_refl _) _)) (by simp)).mono ?_; rintro e w1 ⟨rfl, rfl⟩)
  exact ⟨rfl, rfl, (Below.refl _ _).alloc (Nat.le_refl _) _⟩
set_option maxRecDepth 8000 in
set_option maxHeartbeats 400000 in
theorem smallR_w (g B K i : Nat) (t tk : TypeId) (n : Nat) (d : List UInt8) (x : UInt8) (cs : Array Value) (w : World) (hW : WrAt w g B t n d) (hK : Blk w K tk cs) (hv : cs[i]? = some (.int .i64 (x.toNat : Int))) (hfit : d.length < n) (hg : K ≠ g) (hB : K ≠ B) :
    Calls Tryd.prog 44 #[wri g, .pointer (some ⟨K, i, none⟩)] w fun e w' => e = .returned (.tuple #[]) ∧ WrAt w' g B t n (d ++ [x]) ∧ Blk w' K tk cs ∧ Fr (fun j => j = g ∨ j = B ∨ j = K) w w' := by
  have hc0 := (hK.cell i).trans hv
  have hwr := wrap_u8 x
  have hwi := wrap_i64u x
  have hm := met_w
  have hx := x.toNat_lt
  have HW := Lib.hid hW
  have HK := Lib.hid hK
  have HV := Lib.hid hv
  have HN := Lib.hid (And.intro hg hB)
  have hl1 := hW.lt
  have hl2 := hW.ltB
  have hl3 := hK.lt
  clear hW hK hv
  go_enter Tryd.func44, Tryd.ntmps44
  go_wp2_with (go_at_call 91; refine (wpass g B t n d [x] _ 1 _ _ (HW.out.below ((Below.refl _ _).alloc (Nat.le_refl _) _)) rfl (by decide) (rd_one _ x _) hfit (by intro a h; injection h with h; subst h; show w.heap.size ≠ g; omega)).mono ?_; rintro e w1 ⟨rfl, hw1, hf1⟩; have hc1 := (hf1.cell (p := ⟨w.heap.size, 0, none⟩) (by simp) (by show ¬ (w.heap.size = g ∨ w.heap.size = B); omega)); have hK1 := (hf1.block K (by simp; omega) (by rintro (h | h); exact HN.out.1 h; exact HN.out.2 h)).trans (HK.out.alloc _); have hc2 := (Blk.cell hK1 i).trans HV.out; have hz2 := Blk.frozen hK1 i; simp at hc1; have H1 := Lib.hid hw1; have H2 := Lib.hid hf1; have H3 := Lib.hid hK1; clear hw1 hf1 hK1 hc0)
  go_end0
  have h3 := Blk.set_ H3.out i (.int .i64 (x.toNat : Int))
  rw [set_same HV.out] at h3
  have hf := H2.out.mono (T := fun j => j = g ∨ j = B ∨ j = K) (fun j _ h => h.elim .inl (fun h => .inr (.inl h)))
  have hf' := hf.setCell (p := ⟨K, i, none⟩) (fun _ => .inr (.inr rfl)) (.int .i64 (x.toNat : Int))
  exact ⟨rfl, H1.out.keep (Below.heap_setCell _ _ _ _ (fun e => HN.out.1 e.symm)) (Below.heap_setCell _ _ _ _ (fun e => HN.out.2 e.symm)), h3, ((Fr.refl _ w).alloc _).trans hf'⟩
set_option maxRecDepth 8000 in
set_option maxHeartbeats 400000 in
theorem smallR_r (g s K i : Nat) (tk : TypeId) (x : UInt8) (l : List UInt8) (cs : Array Value) (w : World) (hW : RdAt w g s (x :: l)) (hK : Blk w K tk cs) (hv : cs[i]? = some (.int .i64 0)) (hg : K ≠ g) (hs : K ≠ s) :
    Calls Tryd.prog 44 #[rdi g, .pointer (some ⟨K, i, none⟩)] w fun e w' => e = .returned (.tuple #[]) ∧ RdAt w' g s l ∧ Blk w' K tk (cs.setIfInBounds i (.int .i64 (x.toNat : Int))) ∧ Fr (fun j => j = g ∨ j = K) w w' := by
  have hc0 := (hK.cell i).trans hv
  have hwi := wrap_i64u x
  have hm := met_r
  have hx := x.toNat_lt
  have HW := Lib.hid hW
  have HK := Lib.hid hK
  have HV := Lib.hid hv
  have HN := Lib.hid (And.intro hg hs)
  have hl1 := hW.lt
  have hl2 := hW.lts
  have hl3 := hK.lt
  clear hW hK hv
  go_enter Tryd.func44, Tryd.ntmps44
  go_wp2_with (go_at_call 93; refine (rpass g s w.heap.size _ (x :: l) [.int .u8 0] 0 1 _ _ (HW.out.below ((Below.refl _ _).alloc (Nat.le_refl _) _)) (Blk.new _ _ _) (by simp) (by simp) (by omega) (by omega)).mono ?_; rintro e w1 ⟨rfl, hw1, hb1, hf1⟩; have hc1 := hb1.cell 0; have hK1 := (hf1.block K (by simp; omega) (by rintro (h | h); exact HN.out.1 h; omega)).trans (HK.out.alloc _); have hc2 := (Blk.cell hK1 i).trans HV.out; have hz2 := Blk.frozen hK1 i; simp [spl, bv] at hc1; have H1 := Lib.hid hw1; have H2 := Lib.hid hf1; have H3 := Lib.hid hK1; clear hw1 hf1 hK1 hc0 hb1)
  go_end0
  have hf := ((Fr.refl (fun j => j = g ∨ j = K) w).alloc (.cells #[.int .u8 0] 5)).then_ H2.out (fun j hj h => h.elim .inl (fun h => by omega))
  have hf' := hf.setCell (p := ⟨K, i, none⟩) (fun _ => .inr rfl) (.int .i64 (x.toNat : Int))
  have h1 := H1.out.fr ((Fr.refl (fun j => j = K) _).setCell (p := ⟨K, i, none⟩) (fun _ => rfl) (.int .i64 (x.toNat : Int))) (fun e => HN.out.1 e.symm) (fun e => HN.out.2 e.symm)
  exact ⟨rfl, h1, Blk.set_ H3.out i _, hf'⟩
set_option maxRecDepth 8000 in
theorem smallR_no (g s K i : Nat) (tk : TypeId) (cs : Array Value) (w : World) (hW : RdAt w g s []) (hK : Blk w K tk cs) (hv : cs[i]? = some (.int .i64 0)) :
    Calls Tryd.prog 44 #[rdi g, .pointer (some ⟨K, i, none⟩)] w fun e w' => e = .panicked (erc 151) ∧ Below w.heap.size w w' := by
  have hc0 := (hK.cell i).trans hv
  have hm := met_r
  have HW := Lib.hid hW
  clear hW hK hv
  go_enter Tryd.func44, Tryd.ntmps44
  go_wp2_with (go_at_call 93; refine (rpass_no g s [] _ 1 _ _ (HW.out.below ((Below.refl _ _).alloc (Nat.le_refl _) _)) (by simp)).mono ?_; rintro e w1 ⟨rfl, rfl⟩)
  exact ⟨rfl, rfl, (Below.refl _ _).alloc (Nat.le_refl _) _⟩
set_option maxRecDepth 8000 in
set_option maxHeartbeats 400000 in
theorem smallO_w (g B K i : Nat) (t tk : TypeId) (n : Nat) (d : List UInt8) (x : UInt8) (cs : Array Value) (w : World) (hW : WrAt w g B t n d) (hK : Blk w K tk cs) (hv : cs[i]? = some (.int .i64 (x.toNat : Int))) (hfit : d.length < n) (hg : K ≠ g) (hB : K ≠ B) :
    Calls Tryd.prog 54 #[wri g, .pointer (some ⟨K, i, none⟩)] w fun e w' => e = .returned (.tuple #[]) ∧ WrAt w' g B t n (d ++ [x]) ∧ Blk w' K tk cs ∧ Fr (fun j => j = g ∨ j = B ∨ j = K) w w' := by
  have hc0 := (hK.cell i).trans hv
  have hwr := wrap_u8 x
  have hwi := wrap_i64u x
  have hm := met_w
  have hx := x.toNat_lt
  have HW := Lib.hid hW
  have HK := Lib.hid hK
  have HV := Lib.hid hv
  have HN := Lib.hid (And.intro hg hB)
  have hl1 := hW.lt
  have hl2 := hW.ltB
  have hl3 := hK.lt
  clear hW hK hv
  go_enter Tryd.func54, Tryd.ntmps54
  go_wp2_with (go_at_call 91; refine (wpass g B t n d [x] _ 1 _ _ (HW.out.below ((Below.refl _ _).alloc (Nat.le_refl _) _)) rfl (by decide) (rd_one _ x _) hfit (by intro a h; injection h with h; subst h; show w.heap.size ≠ g; omega)).mono ?_; rintro e w1 ⟨rfl, hw1, hf1⟩; have hc1 := (hf1.cell (p := ⟨w.heap.size, 0, none⟩) (by simp) (by show ¬ (w.heap.size = g ∨ w.heap.size = B); omega)); have hK1 := (hf1.block K (by simp; omega) (by rintro (h | h); exact HN.out.1 h; exact HN.out.2 h)).trans (HK.out.alloc _); have hc2 := (Blk.cell hK1 i).trans HV.out; have hz2 := Blk.frozen hK1 i; simp at hc1; have H1 := Lib.hid hw1; have H2 := Lib.hid hf1; have H3 := Lib.hid hK1; clear hw1 hf1 hK1 hc0)
  go_end0
  have h3 := Blk.set_ H3.out i (.int .i64 (x.toNat : Int))
  rw [set_same HV.out] at h3
  have hf := H2.out.mono (T := fun j => j = g ∨ j = B ∨ j = K) (fun j _ h => h.elim .inl (fun h => .inr (.inl h)))
  have hf' := hf.setCell (p := ⟨K, i, none⟩) (fun _ => .inr (.inr rfl)) (.int .i64 (x.toNat : Int))
  exact ⟨rfl, H1.out.keep (Below.heap_setCell _ _ _ _ (fun e => HN.out.1 e.symm)) (Below.heap_setCell _ _ _ _ (fun e => HN.out.2 e.symm)), h3, ((Fr.refl _ w).alloc _).trans hf'⟩
set_option maxRecDepth 8000 in
set_option maxHeartbeats 400000 in
theorem smallO_r (g s K i : Nat) (tk : TypeId) (x : UInt8) (l : List UInt8) (cs : Array Value) (w : World) (hW : RdAt w g s (x :: l)) (hK : Blk w K tk cs) (hv : cs[i]? = some (.int .i64 0)) (hg : K ≠ g) (hs : K ≠ s) :
    Calls Tryd.prog 54 #[rdi g, .pointer (some ⟨K, i, none⟩)] w fun e w' => e = .returned (.tuple #[]) ∧ RdAt w' g s l ∧ Blk w' K tk (cs.setIfInBounds i (.int .i64 (x.toNat : Int))) ∧ Fr (fun j => j = g ∨ j = K) w w' := by
  have hc0 := (hK.cell i).trans hv
  have hwi := wrap_i64u x
  have hm := met_r
  have hx := x.toNat_lt
  have HW := Lib.hid hW
  have HK := Lib.hid hK
  have HV := Lib.hid hv
  have HN := Lib.hid (And.intro hg hs)
  have hl1 := hW.lt
  have hl2 := hW.lts
  have hl3 := hK.lt
  clear hW hK hv
  go_enter Tryd.func54, Tryd.ntmps54
  go_wp2_with (go_at_call 93; refine (rpass g s w.heap.size _ (x :: l) [.int .u8 0] 0 1 _ _ (HW.out.below ((Below.refl _ _).alloc (Nat.le_refl _) _)) (Blk.new _ _ _) (by simp) (by simp) (by omega) (by omega)).mono ?_; rintro e w1 ⟨rfl, hw1, hb1, hf1⟩; have hc1 := hb1.cell 0; have hK1 := (hf1.block K (by simp; omega) (by rintro (h | h); exact HN.out.1 h; omega)).trans (HK.out.alloc _); have hc2 := (Blk.cell hK1 i).trans HV.out; have hz2 := Blk.frozen hK1 i; simp [spl, bv] at hc1; have H1 := Lib.hid hw1; have H2 := Lib.hid hf1; have H3 := Lib.hid hK1; clear hw1 hf1 hK1 hc0 hb1)
  go_end0
  have hf := ((Fr.refl (fun j => j = g ∨ j = K) w).alloc (.cells #[.int .u8 0] 5)).then_ H2.out (fun j hj h => h.elim .inl (fun h => by omega))
  have hf' := hf.setCell (p := ⟨K, i, none⟩) (fun _ => .inr rfl) (.int .i64 (x.toNat : Int))
  have h1 := H1.out.fr ((Fr.refl (fun j => j = K) _).setCell (p := ⟨K, i, none⟩) (fun _ => rfl) (.int .i64 (x.toNat : Int))) (fun e => HN.out.1 e.symm) (fun e => HN.out.2 e.symm)
  exact ⟨rfl, h1, Blk.set_ H3.out i _, hf'⟩
set_option maxRecDepth 8000 in
theorem smallO_no (g s K i : Nat) (tk : TypeId) (cs : Array Value) (w : World) (hW : RdAt w g s []) (hK : Blk w K tk cs) (hv : cs[i]? = some (.int .i64 0)) :
    Calls Tryd.prog 54 #[rdi g, .pointer (some ⟨K, i, none⟩)] w fun e w' => e = .panicked (erc 151) ∧ Below w.heap.size w w' := by
  have hc0 := (hK.cell i).trans hv
  have hm := met_r
  have HW := Lib.hid hW
  clear hW hK hv
  go_enter Tryd.func54, Tryd.ntmps54
  go_wp2_with (go_at_call 93; refine (rpass_no g s [] _ 1 _ _ (HW.out.below ((Below.refl _ _).alloc (Nat.le_refl _) _)) (by simp)).mono ?_; rintro e w1 ⟨rfl, rfl⟩)
  exact ⟨rfl, rfl, (Below.refl _ _).alloc (Nat.le_refl _) _⟩
end Go.Proofs.YtfclkkbmgclfgaaDoor

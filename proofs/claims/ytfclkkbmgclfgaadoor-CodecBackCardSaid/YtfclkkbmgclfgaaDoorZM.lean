/- codec: passSlots. -/
import Derived.Test.YtfclkkbmgclfgaaDoorCL
import Derived.Deep.RegionWith
namespace Go.Proofs.YtfclkkbmgclfgaaDoor
open Go.RowKit
/-- keys' bytes -/
def kks (s : List Ky) : List UInt8 := s.flatMap kbs
set_option maxRecDepth 8000 in
theorem kks_snoc (s : List Ky) (x : Ky) : kks (s ++ [x]) = kks s ++ kbs x := by simp [kks]
set_option maxRecDepth 8000 in
theorem kks_length (s : List Ky) : (kks s).length = s.length * 20 := by
  induction s with
  | nil => rfl
  | cons x s ih =>
    have : kks (x :: s) = kbs x ++ kks s := by simp [kks]
    rw [this, List.length_append, kbs_length, ih, List.length_cons]
    omega
/-- so many keys that bytes tell -/
def kofs : Nat → List UInt8 → List Ky
  | 0, _ => []
  | n + 1, l => kofs n l ++ [kof (l.drop (n * 20))]
set_option maxRecDepth 8000 in
theorem kofs_length (n : Nat) (l : List UInt8) : (kofs n l).length = n := by
  induction n with
  | zero => rfl
  | succ n ih => simp [kofs, ih]
set_option maxRecDepth 8000 in
theorem kcs_append (a b : List Ky) : kcs (a ++ b) = kcs a ++ kcs b := by
  induction a with
  | nil => rfl
  | cons x a ih => simp [kcs, ih]
set_option maxRecDepth 8000 in
theorem kcs_one' (x : Ky) : kcs [x] = kl x := by simp [kcs]
set_option maxRecDepth 8000 in
theorem zk_rep (n : Nat) : kcs (List.replicate (n + 1) zk) = kl zk ++ kcs (List.replicate n zk) := by simp [List.replicate_succ, kcs]
set_option maxRecDepth 8000 in
theorem slots_at {s : List Ky} {k : Nat} (h : k < s.length) (p q : List Value) : p ++ kcs s ++ q = (p ++ kcs (s.take k)) ++ kl s[k] ++ (kcs (s.drop (k + 1)) ++ q) := by
  conv => lhs; rw [← List.take_append_drop k s, List.drop_eq_getElem_cons h, kcs_append]
  simp [kcs]
set_option maxRecDepth 8000 in
set_option maxHeartbeats 1000000 in
theorem passSlots_w (g B K : Nat) (t tk : TypeId) (n : Nat) (d : List UInt8) (s : List Ky) (hs : s.length = 16) (hx : ∀ x ∈ s, x.fit) (p q : List Value) (hp : p.length = 3) (w : World) (hW : WrAt w g B t n d) (hK : Blk w K tk (mid p (kcs s) q)) (hfit : d.length + 320 ≤ n) (hg : K ≠ g) (hB : K ≠ B) :
    Calls Tryd.prog 60 #[wri g, .pointer (some ⟨K, 3, none⟩)] w fun e w' => e = .returned (.tuple #[]) ∧ WrAt w' g B t n (d ++ kks s) ∧ Blk w' K tk (mid p (kcs s) q) ∧ Fr (fun j => j = g ∨ j = B ∨ j = K) w w' := by
  have HW := Lib.hid hW
  have HK := Lib.hid hK
  have HS := Lib.hid hs
  have HP := Lib.hid hp
  have HX := Lib.hid hx
  have HF := Lib.hid hfit
  clear hW hK hs hp hx hfit
  go_enter Tryd.func60, Tryd.ntmps60
  go_wp2_with fail
  go_loopw [4, 5] (fun _ i wr => ∃ k : Nat, k ≤ 16 ∧ i = .int .i64 k ∧ WrAt wr g B t n (d ++ kks (s.take k)) ∧ Blk wr K tk (mid p (kcs s) q) ∧ Fr (fun j => j = g ∨ j = B ∨ j = K) w wr) (fun _ i _ => 17 - (intOf i).toNat)
  case atStart => exact ⟨0, by omega, rfl, by simpa [kks] using HW.out, HK.out, Fr.refl _ _⟩
  case round =>
    obtain ⟨k, hk, rfl, hw, hb, hf⟩ := hrel
    have H1 := Lib.hid hw
    have H2 := Lib.hid hb
    have H3 := Lib.hid hf
    clear hw hb hf
    by_cases hlt : k < 16
    · have hks : k < s.length := by have := HS.out; omega
      have HKS := Lib.hid hks
      clear hks
      obtain ⟨y, hy⟩ : ∃ y, y = s[k]'HKS.out := ⟨_, rfl⟩
      have hsl := slots_at HKS.out p q
      have hxx := HX.out _ (List.getElem_mem HKS.out)
      rw [← hy] at hsl hxx
      rw [mid, hsl] at H2
      have HE := Lib.hid hsl
      have HY := Lib.hid hy
      have HXX := Lib.hid hxx
      have hln : (p ++ kcs (s.take k)).length = 3 + k * 6 := by rw [List.length_append, kcs_length, List.length_take]; have := HP.out; have h2 := HKS.out; omega
      have HLN := Lib.hid hln
      have hfd : (d ++ kks (s.take k)).length + 20 ≤ n := by rw [List.length_append, kks_length, List.length_take]; have := HF.out; have h2 := HKS.out; omega
      have HFD := Lib.hid hfd
      clear hsl hxx hln hfd hy
      go_wp2_with (go_at_call 14; refine (passKey_w g B K (3 + k * 6) t tk n _ y HXX.out (p ++ kcs (s.take k)) _ _ H1.out HLN.out H2.out HFD.out hg hB).mono ?_; rintro e w1 ⟨rfl, h1, h2, h3⟩; have G1 := Lib.hid h1; have G2 := Lib.hid h2; have G3 := Lib.hid h3; clear h1 h2 h3)
      go_roundw
      case rel =>
        refine ⟨k + 1, by omega, by go_num, ?_, ?_, H3.out.trans G3.out⟩
        · have h := G1.out
          rw [List.append_assoc, ← kks_snoc, HY.out, ← take_snoc _ _ HKS.out] at h
          exact h
        · have h := G2.out
          rw [mid, ← HE.out] at h
          exact h
      case measure => simp [intOf]; omega
    · obtain rfl : k = 16 := by omega
      go_wp2
      go_end0
      have h := H1.out
      rw [List.take_of_length_le (by have := HS.out; omega)] at h
      exact ⟨rfl, h, H2.out, H3.out⟩
set_option maxRecDepth 8000 in
set_option maxHeartbeats 1000000 in
theorem passSlots_r (g s K : Nat) (tk : TypeId) (l : List UInt8) (p q : List Value) (hp : p.length = 3) (w : World) (hW : RdAt w g s l) (hK : Blk w K tk (mid p (kcs zks) q)) (hl : 320 ≤ l.length) (hg : K ≠ g) (hs : K ≠ s) :
    Calls Tryd.prog 60 #[rdi g, .pointer (some ⟨K, 3, none⟩)] w fun e w' => e = .returned (.tuple #[]) ∧ RdAt w' g s (l.drop 320) ∧ Blk w' K tk (mid p (kcs (kofs 16 l)) q) ∧ Fr (fun j => j = g ∨ j = K) w w' := by
  have HW := Lib.hid hW
  have HK := Lib.hid hK
  have HP := Lib.hid hp
  have HL := Lib.hid hl
  clear hW hK hp hl
  go_enter Tryd.func60, Tryd.ntmps60
  go_wp2_with fail
  go_loopw [4, 5] (fun _ i wr => ∃ k : Nat, k ≤ 16 ∧ i = .int .i64 k ∧ RdAt wr g s (l.drop (k * 20)) ∧ Blk wr K tk (mid p (kcs (kofs k l ++ List.replicate (16 - k) zk)) q) ∧ Fr (fun j => j = g ∨ j = K) w wr) (fun _ i _ => 17 - (intOf i).toNat)
  case atStart => exact ⟨0, by omega, rfl, by simpa using HW.out, HK.out, Fr.refl _ _⟩
  case round =>
    obtain ⟨k, hk, rfl, hw, hb, hf⟩ := hrel
    have H1 := Lib.hid hw
    have H3 := Lib.hid hf
    clear hw hf
    by_cases hlt : k < 16
    · have e1 : p ++ kcs (kofs k l ++ List.replicate (16 - k) zk) ++ q = (p ++ kcs (kofs k l)) ++ kl zk ++ (kcs (List.replicate (15 - k) zk) ++ q) := by
        rw [kcs_append, show 16 - k = (15 - k) + 1 by omega, zk_rep]
        simp only [List.append_assoc]
      rw [mid, e1] at hb
      have H2 := Lib.hid hb
      have e2 : (p ++ kcs (kofs k l)) ++ kl (kof (l.drop (k * 20))) ++ (kcs (List.replicate (15 - k) zk) ++ q) = p ++ kcs (kofs (k + 1) l ++ List.replicate (16 - (k + 1)) zk) ++ q := by
        rw [kcs_append, kofs, kcs_append, kcs_one', show 16 - (k + 1) = 15 - k by omega]
        simp only [List.append_assoc]
      have HE := Lib.hid e2
      have HLN := Lib.hid (show (p ++ kcs (kofs k l)).length = 3 + k * 6 by rw [List.length_append, kcs_length, kofs_length]; have := HP.out; omega)
      have HFD := Lib.hid (show 20 ≤ (l.drop (k * 20)).length by rw [List.length_drop]; have := HL.out; omega)
      clear hb e1 e2
      go_wp2_with (go_at_call 14; refine (passKey_r g s K (3 + k * 6) tk (l.drop (k * 20)) (p ++ kcs (kofs k l)) _ _ H1.out HLN.out H2.out HFD.out hg hs).mono ?_; rintro e w1 ⟨rfl, h1, h2, h3⟩; have G1 := Lib.hid h1; have G2 := Lib.hid h2; have G3 := Lib.hid h3; clear h1 h2 h3)
      go_roundw
      case rel =>
        refine ⟨k + 1, by omega, by go_num, ?_, ?_, H3.out.trans G3.out⟩
        · have h := G1.out
          rw [List.drop_drop, show k * 20 + 20 = (k + 1) * 20 by omega] at h
          exact h
        · have h := G2.out
          rw [mid, HE.out] at h
          exact h
      case measure => simp [intOf]; omega
    · obtain rfl : k = 16 := by omega
      have H2 := Lib.hid hb
      clear hb
      go_wp2
      go_end0
      have h := H2.out
      simp only [Nat.sub_self, List.replicate_zero, List.append_nil] at h
      exact ⟨rfl, H1.out, h, H3.out⟩
end Go.Proofs.YtfclkkbmgclfgaaDoor
namespace Go.Proofs.YtfclkkbmgclfgaaDoor
open Go.RowKit
abbrev obt : TypeId := 30
/-- an object's cells -/
abbrev obc (k c l : Int) (s : List Ky) (b : List UInt8) : List Value := .int .i64 k :: .int .i64 c :: .int .i64 l :: (kcs s ++ bv b)
set_option maxRecDepth 8000 in
theorem nil_w (k : Nat) (a : Addr) (w : World) : (nilAhead (k + 8) 54 (.pointer (some a)) "chatelaine/codec.pass").run Tryd.prog w = .ok (some false) w := by kernel_rfl
set_option maxRecDepth 8000 in
theorem nil_r (k : Nat) (a : Addr) (w : World) : (nilAhead (k + 8) 62 (.pointer (some a)) "chatelaine/codec.pass").run Tryd.prog w = .ok (some false) w := by kernel_rfl
theorem blank_w3 (g B : Nat) (t : TypeId) (n : Nat) (d : List UInt8) (w : World) (hW : WrAt w g B t n d) (hfit : d.length + 3 ≤ n) :
    Calls Tryd.prog 56 #[wri g, .int .i64 3] w fun e w' => e = .returned (.tuple #[]) ∧ WrAt w' g B t n (d ++ List.replicate 3 0) ∧ Fr (fun j => j = g ∨ j = B) w w' := blank_w g B t n d 3 w hW (by decide) (by decide) hfit
theorem blank_w112 (g B : Nat) (t : TypeId) (n : Nat) (d : List UInt8) (w : World) (hW : WrAt w g B t n d) (hfit : d.length + 112 ≤ n) :
    Calls Tryd.prog 56 #[wri g, .int .i64 112] w fun e w' => e = .returned (.tuple #[]) ∧ WrAt w' g B t n (d ++ List.replicate 112 0) ∧ Fr (fun j => j = g ∨ j = B) w w' := blank_w g B t n d 112 w hW (by decide) (by decide) hfit
theorem blank_r3 (g s : Nat) (l : List UInt8) (w : World) (hW : RdAt w g s l) (hfit : 3 ≤ l.length) (hn : nou (l.take 3)) :
    Calls Tryd.prog 56 #[rdi g, .int .i64 3] w fun e w' => e = .returned (.tuple #[]) ∧ RdAt w' g s (l.drop 3) ∧ Fr (fun j => j = g) w w' := blank_r g s l 3 w hW (by decide) hfit hn
theorem blank_no3 (g s : Nat) (l : List UInt8) (w : World) (hW : RdAt w g s l) (hfit : 3 ≤ l.length) (hn : ¬ nou (l.take 3)) :
    Calls Tryd.prog 56 #[rdi g, .int .i64 3] w fun e w' => e = .panicked (erc 151) ∧ Fr (fun j => j = g) w w' := blank_no g s l 3 w hW (by decide) hfit hn
theorem blank_r112 (g s : Nat) (l : List UInt8) (w : World) (hW : RdAt w g s l) (hfit : 112 ≤ l.length) (hn : nou (l.take 112)) :
    Calls Tryd.prog 56 #[rdi g, .int .i64 112] w fun e w' => e = .returned (.tuple #[]) ∧ RdAt w' g s (l.drop 112) ∧ Fr (fun j => j = g) w w' := blank_r g s l 112 w hW (by decide) hfit hn
theorem blank_no112 (g s : Nat) (l : List UInt8) (w : World) (hW : RdAt w g s l) (hfit : 112 ≤ l.length) (hn : ¬ nou (l.take 112)) :
    Calls Tryd.prog 56 #[rdi g, .int .i64 112] w fun e w' => e = .panicked (erc 151) ∧ Fr (fun j => j = g) w w' := blank_no g s l 112 w hW (by decide) hfit hn
set_option maxRecDepth 8000 in
theorem of1_w (g B K : Nat) (t : TypeId) (n : Nat) (d : List UInt8) (x : UInt8) (cs : Array Value) (w : World) (hW : WrAt w g B t n d) (hK : Blk w K obt cs) (hv : cs[0]? = some (.int .i64 (x.toNat : Int))) (hfit : d.length < n) (hg : K ≠ g) (hB : K ≠ B) :
    Calls Tryd.prog 53 #[wri g, .pointer (some ⟨K, 0, none⟩)] w fun e w' => e = .returned (.tuple #[]) ∧ WrAt w' g B t n (d ++ [x]) ∧ Blk w' K obt cs ∧ Fr (fun j => j = g ∨ j = B ∨ j = K) w w' := by
  have HW := Lib.hid hW
  have HK := Lib.hid hK
  have Hv := Lib.hid hv
  clear hW hK hv
  go_enter Tryd.func53, Tryd.ntmps53
  go_wp2_with (go_at_call 54; refine (smallO_w g B K 0 t obt n d x cs _ HW.out HK.out Hv.out hfit hg hB).mono ?_; rintro e w1 ⟨rfl, h1, h2, h3⟩)
  go_end0
  exact ⟨rfl, h1, h2, h3⟩
set_option maxRecDepth 8000 in
theorem of1_r (g s K : Nat) (l : List UInt8) (cs : Array Value) (w : World) (hW : RdAt w g s l) (hK : Blk w K obt cs) (hv : cs[0]? = some (.int .i64 0)) (hl : 1 ≤ l.length) (hg : K ≠ g) (hs : K ≠ s) :
    Calls Tryd.prog 53 #[rdi g, .pointer (some ⟨K, 0, none⟩)] w fun e w' => e = .returned (.tuple #[]) ∧ RdAt w' g s (l.drop 1) ∧ Blk w' K obt (cs.setIfInBounds 0 (.int .i64 ((b0 l).toNat : Int))) ∧ Fr (fun j => j = g ∨ j = K) w w' := by
  have HW := Lib.hid hW
  have HK := Lib.hid hK
  have Hv := Lib.hid hv
  clear hW hK hv
  go_enter Tryd.func53, Tryd.ntmps53
  go_wp2_with (go_at_call 54; refine (smallO_r' g s K 0 obt l cs _ HW.out HK.out Hv.out hl hg hs).mono ?_; rintro e w1 ⟨rfl, h1, h2, h3⟩)
  go_end0
  exact ⟨rfl, h1, h2, h3⟩
set_option maxRecDepth 8000 in
theorem of2_w (g B K : Nat) (t : TypeId) (n : Nat) (d : List UInt8) (w : World) (hW : WrAt w g B t n d) (hfit : d.length + 3 ≤ n) :
    Calls Tryd.prog 55 #[wri g, .pointer (some ⟨K, 0, none⟩)] w fun e w' => e = .returned (.tuple #[]) ∧ WrAt w' g B t n (d ++ List.replicate 3 0) ∧ Fr (fun j => j = g ∨ j = B) w w' := by
  have HW := Lib.hid hW
  clear hW
  go_enter Tryd.func55, Tryd.ntmps55
  go_wp2_with (go_at_call 56; refine (blank_w3 g B t n d _ HW.out hfit).mono ?_; rintro e w1 ⟨rfl, h1, h2⟩)
  go_end0
  exact ⟨rfl, h1, h2⟩
set_option maxRecDepth 8000 in
theorem of2_r (g s K : Nat) (l : List UInt8) (w : World) (hW : RdAt w g s l) (hfit : 3 ≤ l.length) (hn : nou (l.take 3)) :
    Calls Tryd.prog 55 #[rdi g, .pointer (some ⟨K, 0, none⟩)] w fun e w' => e = .returned (.tuple #[]) ∧ RdAt w' g s (l.drop 3) ∧ Fr (fun j => j = g) w w' := by
  have HW := Lib.hid hW
  have Hn := Lib.hid hn
  clear hW hn
  go_enter Tryd.func55, Tryd.ntmps55
  go_wp2_with (go_at_call 56; refine (blank_r3 g s l _ HW.out hfit Hn.out).mono ?_; rintro e w1 ⟨rfl, h1, h2⟩)
  go_end0
  exact ⟨rfl, h1, h2⟩
set_option maxRecDepth 8000 in
theorem of2_no (g s K : Nat) (l : List UInt8) (w : World) (hW : RdAt w g s l) (hfit : 3 ≤ l.length) (hn : ¬ nou (l.take 3)) :
    Calls Tryd.prog 55 #[rdi g, .pointer (some ⟨K, 0, none⟩)] w fun e w' => e = .panicked (erc 151) ∧ Fr (fun j => j = g) w w' := by
  have HW := Lib.hid hW
  have Hn := Lib.hid hn
  clear hW hn
  go_enter Tryd.func55, Tryd.ntmps55
  go_wp2_with (go_at_call 56; refine (blank_no3 g s l _ HW.out hfit Hn.out).mono ?_; rintro e w1 ⟨rfl, h1⟩)
  exact ⟨rfl, rfl, h1⟩
set_option maxRecDepth 8000 in
theorem of7_w (g B K : Nat) (t : TypeId) (n : Nat) (d : List UInt8) (w : World) (hW : WrAt w g B t n d) (hfit : d.length + 112 ≤ n) :
    Calls Tryd.prog 62 #[wri g, .pointer (some ⟨K, 0, none⟩)] w fun e w' => e = .returned (.tuple #[]) ∧ WrAt w' g B t n (d ++ List.replicate 112 0) ∧ Fr (fun j => j = g ∨ j = B) w w' := by
  have HW := Lib.hid hW
  clear hW
  go_enter Tryd.func62, Tryd.ntmps62
  go_wp2_with (go_at_call 56; refine (blank_w112 g B t n d _ HW.out hfit).mono ?_; rintro e w1 ⟨rfl, h1, h2⟩)
  go_end0
  exact ⟨rfl, h1, h2⟩
set_option maxRecDepth 8000 in
theorem of7_r (g s K : Nat) (l : List UInt8) (w : World) (hW : RdAt w g s l) (hfit : 112 ≤ l.length) (hn : nou (l.take 112)) :
    Calls Tryd.prog 62 #[rdi g, .pointer (some ⟨K, 0, none⟩)] w fun e w' => e = .returned (.tuple #[]) ∧ RdAt w' g s (l.drop 112) ∧ Fr (fun j => j = g) w w' := by
  have HW := Lib.hid hW
  have Hn := Lib.hid hn
  clear hW hn
  go_enter Tryd.func62, Tryd.ntmps62
  go_wp2_with (go_at_call 56; refine (blank_r112 g s l _ HW.out hfit Hn.out).mono ?_; rintro e w1 ⟨rfl, h1, h2⟩)
  go_end0
  exact ⟨rfl, h1, h2⟩
set_option maxRecDepth 8000 in
theorem of7_no (g s K : Nat) (l : List UInt8) (w : World) (hW : RdAt w g s l) (hfit : 112 ≤ l.length) (hn : ¬ nou (l.take 112)) :
    Calls Tryd.prog 62 #[rdi g, .pointer (some ⟨K, 0, none⟩)] w fun e w' => e = .panicked (erc 151) ∧ Fr (fun j => j = g) w w' := by
  have HW := Lib.hid hW
  have Hn := Lib.hid hn
  clear hW hn
  go_enter Tryd.func62, Tryd.ntmps62
  go_wp2_with (go_at_call 56; refine (blank_no112 g s l _ HW.out hfit Hn.out).mono ?_; rintro e w1 ⟨rfl, h1⟩)
  exact ⟨rfl, rfl, h1⟩
set_option maxRecDepth 8000 in
theorem of3_w (g B K : Nat) (t : TypeId) (n : Nat) (d : List UInt8) (N : Nat) (cs : Array Value) (w : World) (hW : WrAt w g B t n d) (hK : Blk w K obt cs) (hv : cs[1]? = some (.int .i64 (N : Int))) (hN : N < 256 ^ 4) (hfit : d.length + 4 ≤ n) (hg : K ≠ g) (hB : K ≠ B) :
    Calls Tryd.prog 57 #[wri g, .pointer (some ⟨K, 0, none⟩)] w fun e w' => e = .returned (.tuple #[]) ∧ WrAt w' g B t n (d ++ bytesLE 4 N) ∧ Blk w' K obt cs ∧ Fr (fun j => j = g ∨ j = B ∨ j = K) w w' := by
  have HW := Lib.hid hW
  have HK := Lib.hid hK
  have Hv := Lib.hid hv
  have HN := Lib.hid hN
  clear hW hK hv hN
  go_enter Tryd.func57, Tryd.ntmps57
  go_wp2_with (go_at_call 48; refine (numberL_w4 g B K 1 t obt n d N cs _ HW.out HK.out Hv.out HN.out hfit hg hB).mono ?_; rintro e w1 ⟨rfl, h1, h2, h3⟩)
  go_end0
  exact ⟨rfl, h1, h2, h3⟩
set_option maxRecDepth 8000 in
theorem of3_r (g s K : Nat) (l : List UInt8) (cs : Array Value) (w : World) (hW : RdAt w g s l) (hK : Blk w K obt cs) (hv : cs[1]? = some (.int .i64 0)) (hl : 4 ≤ l.length) (hg : K ≠ g) (hs : K ≠ s) :
    Calls Tryd.prog 57 #[rdi g, .pointer (some ⟨K, 0, none⟩)] w fun e w' => e = .returned (.tuple #[]) ∧ RdAt w' g s (l.drop 4) ∧ Blk w' K obt (cs.setIfInBounds 1 (.int .i64 (numLE (l.take 4) : Int))) ∧ Fr (fun j => j = g ∨ j = K) w w' := by
  have HW := Lib.hid hW
  have HK := Lib.hid hK
  have Hv := Lib.hid hv
  clear hW hK hv
  go_enter Tryd.func57, Tryd.ntmps57
  go_wp2_with (go_at_call 48; refine (numberL_r4 g s K 1 obt l cs _ HW.out HK.out Hv.out hl hg hs).mono ?_; rintro e w1 ⟨rfl, h1, h2, h3⟩)
  go_end0
  exact ⟨rfl, h1, h2, h3⟩
set_option maxRecDepth 8000 in
theorem of4_w (g B K : Nat) (t : TypeId) (n : Nat) (d : List UInt8) (N : Nat) (cs : Array Value) (w : World) (hW : WrAt w g B t n d) (hK : Blk w K obt cs) (hv : cs[2]? = some (.int .i64 (N : Int))) (hN : N < 256 ^ 4) (hfit : d.length + 4 ≤ n) (hg : K ≠ g) (hB : K ≠ B) :
    Calls Tryd.prog 58 #[wri g, .pointer (some ⟨K, 0, none⟩)] w fun e w' => e = .returned (.tuple #[]) ∧ WrAt w' g B t n (d ++ bytesLE 4 N) ∧ Blk w' K obt cs ∧ Fr (fun j => j = g ∨ j = B ∨ j = K) w w' := by
  have HW := Lib.hid hW
  have HK := Lib.hid hK
  have Hv := Lib.hid hv
  have HN := Lib.hid hN
  clear hW hK hv hN
  go_enter Tryd.func58, Tryd.ntmps58
  go_wp2_with (go_at_call 48; refine (numberL_w4 g B K 2 t obt n d N cs _ HW.out HK.out Hv.out HN.out hfit hg hB).mono ?_; rintro e w1 ⟨rfl, h1, h2, h3⟩)
  go_end0
  exact ⟨rfl, h1, h2, h3⟩
set_option maxRecDepth 8000 in
theorem of4_r (g s K : Nat) (l : List UInt8) (cs : Array Value) (w : World) (hW : RdAt w g s l) (hK : Blk w K obt cs) (hv : cs[2]? = some (.int .i64 0)) (hl : 4 ≤ l.length) (hg : K ≠ g) (hs : K ≠ s) :
    Calls Tryd.prog 58 #[rdi g, .pointer (some ⟨K, 0, none⟩)] w fun e w' => e = .returned (.tuple #[]) ∧ RdAt w' g s (l.drop 4) ∧ Blk w' K obt (cs.setIfInBounds 2 (.int .i64 (numLE (l.take 4) : Int))) ∧ Fr (fun j => j = g ∨ j = K) w w' := by
  have HW := Lib.hid hW
  have HK := Lib.hid hK
  have Hv := Lib.hid hv
  clear hW hK hv
  go_enter Tryd.func58, Tryd.ntmps58
  go_wp2_with (go_at_call 48; refine (numberL_r4 g s K 2 obt l cs _ HW.out HK.out Hv.out hl hg hs).mono ?_; rintro e w1 ⟨rfl, h1, h2, h3⟩)
  go_end0
  exact ⟨rfl, h1, h2, h3⟩
set_option maxRecDepth 8000 in
theorem of5_w (g B K : Nat) (t : TypeId) (n : Nat) (d : List UInt8) (u : List Ky) (hu : u.length = 16) (hx : ∀ x ∈ u, x.fit) (p q : List Value) (hp : p.length = 3) (w : World) (hW : WrAt w g B t n d) (hK : Blk w K obt (mid p (kcs u) q)) (hfit : d.length + 320 ≤ n) (hg : K ≠ g) (hB : K ≠ B) :
    Calls Tryd.prog 59 #[wri g, .pointer (some ⟨K, 0, none⟩)] w fun e w' => e = .returned (.tuple #[]) ∧ WrAt w' g B t n (d ++ kks u) ∧ Blk w' K obt (mid p (kcs u) q) ∧ Fr (fun j => j = g ∨ j = B ∨ j = K) w w' := by
  have HW := Lib.hid hW
  have HK := Lib.hid hK
  have Hx := Lib.hid hx
  clear hW hK hx
  go_enter Tryd.func59, Tryd.ntmps59
  go_wp2_with (go_at_call 60; refine (passSlots_w g B K t obt n d u hu Hx.out p q hp _ HW.out HK.out hfit hg hB).mono ?_; rintro e w1 ⟨rfl, h1, h2, h3⟩)
  go_end0
  exact ⟨rfl, h1, h2, h3⟩
set_option maxRecDepth 8000 in
theorem of5_r (g s K : Nat) (l : List UInt8) (p q : List Value) (hp : p.length = 3) (w : World) (hW : RdAt w g s l) (hK : Blk w K obt (mid p (kcs zks) q)) (hl : 320 ≤ l.length) (hg : K ≠ g) (hs : K ≠ s) :
    Calls Tryd.prog 59 #[rdi g, .pointer (some ⟨K, 0, none⟩)] w fun e w' => e = .returned (.tuple #[]) ∧ RdAt w' g s (l.drop 320) ∧ Blk w' K obt (mid p (kcs (kofs 16 l)) q) ∧ Fr (fun j => j = g ∨ j = K) w w' := by
  have HW := Lib.hid hW
  have HK := Lib.hid hK
  clear hW hK
  go_enter Tryd.func59, Tryd.ntmps59
  go_wp2_with (go_at_call 60; refine (passSlots_r g s K obt l p q hp _ HW.out HK.out hl hg hs).mono ?_; rintro e w1 ⟨rfl, h1, h2, h3⟩)
  go_end0
  exact ⟨rfl, h1, h2, h3⟩
set_option maxRecDepth 8000 in
theorem of6_w (g B K : Nat) (t : TypeId) (n : Nat) (d : List UInt8) (k : List UInt8) (hk : k.length = 64) (w : World) (hW : WrAt w g B t n d) (hr : Rd w (some ⟨K, 99, none⟩) k) (hfit : d.length + 64 ≤ n) (hg : K ≠ g) :
    Calls Tryd.prog 61 #[wri g, .pointer (some ⟨K, 0, none⟩)] w fun e w' => e = .returned (.tuple #[]) ∧ WrAt w' g B t n (d ++ k) ∧ Fr (fun j => j = g ∨ j = B) w w' := by
  have hmf : ∀ (fn : Fn) (first cap : Array Value) (w : World), (Instr.makeFunc fn first cap).run Tryd.prog w = .ok (.func fn first cap) w := fun _ _ _ _ => rfl
  have hm := met_w
  have hna := nil_w
  have HW := Lib.hid hW
  have Hr := Lib.hid hr
  clear hW hr
  go_enter Tryd.func61, Tryd.ntmps61
  go_region_with (go_at_call 91; refine (wpass g B t n d k (some ⟨K, 99, none⟩) 64 _ _ (HW.out.fr (Fr.refl (fun _ => False) _).drew (fun h => h) (fun h => h)) hk (by decide) Hr.out.drew hfit (by intro a h; injection h with h; subst h; exact hg)).mono ?_; rintro e w1 ⟨rfl, h1, h2⟩)
  go_end0
  exact ⟨rfl, h1, ⟨h2.os, h2.tape, h2.output, h2.size, h2.block⟩⟩
set_option maxRecDepth 8000 in
theorem of6_r (g s K : Nat) (l : List UInt8) (cur : List Value) (w : World) (hW : RdAt w g s l) (hK : Blk w K obt cur.toArray) (hl : 64 ≤ l.length) (hfit : 99 + 64 ≤ cur.length) (hg : K ≠ g) (hs : K ≠ s) :
    Calls Tryd.prog 61 #[rdi g, .pointer (some ⟨K, 0, none⟩)] w fun e w' => e = .returned (.tuple #[]) ∧ RdAt w' g s (l.drop 64) ∧ Blk w' K obt (spl cur 99 (l.take 64)).toArray ∧ Fr (fun j => j = g ∨ j = K) w w' := by
  have hmf : ∀ (fn : Fn) (first cap : Array Value) (w : World), (Instr.makeFunc fn first cap).run Tryd.prog w = .ok (.func fn first cap) w := fun _ _ _ _ => rfl
  have hm := met_r
  have hna := nil_r
  have HW := Lib.hid hW
  have HK := Lib.hid hK
  clear hW hK
  go_enter Tryd.func61, Tryd.ntmps61
  go_region_with (go_at_call 93; refine (rpass g s K obt l cur 99 64 _ _ (HW.out.fr (Fr.refl (fun _ => False) _).drew (fun h => h) (fun h => h)) HK.out.drew hl hfit hg hs).mono ?_; rintro e w1 ⟨rfl, h1, h2, h3⟩)
  go_end0
  exact ⟨rfl, h1, h2, ⟨h3.os, h3.tape, h3.output, h3.size, h3.block⟩⟩
end Go.Proofs.YtfclkkbmgclfgaaDoor

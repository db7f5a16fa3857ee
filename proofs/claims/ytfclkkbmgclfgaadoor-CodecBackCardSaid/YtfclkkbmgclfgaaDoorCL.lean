/- codec: passKey. -/
import Derived.Test.YtfclkkbmgclfgaaDoorZC
namespace Go.Proofs.YtfclkkbmgclfgaaDoor
open Go.RowKit
set_option maxRecDepth 8000 in
set_option maxHeartbeats 1000000 in
theorem passKey_w (g B K o : Nat) (t tk : TypeId) (n : Nat) (d : List UInt8) (x : Ky) (hx : x.fit) (a b : List Value) (w : World) (hW : WrAt w g B t n d) (ho : a.length = o) (hK : Blk w K tk (mid a (kl x) b)) (hfit : d.length + 20 ≤ n) (hg : K ≠ g) (hB : K ≠ B) :
    Calls Tryd.prog 14 #[wri g, .pointer (some ⟨K, o, none⟩)] w fun e w' => e = .returned (.tuple #[]) ∧ WrAt w' g B t n (d ++ kbs x) ∧ Blk w' K tk (mid a (kl x) b) ∧ Fr (fun j => j = g ∨ j = B ∨ j = K) w w' := by
  have i0 : ∀ w, (Instr.index 84 (.agg kfs) (.int .i64 0)).run Tryd.prog w = .ok (.func (.func 41) #[] #[]) w := fun _ => by kernel_rfl
  have i1 : ∀ w, (Instr.index 84 (.agg kfs) (.int .i64 1)).run Tryd.prog w = .ok (.func (.func 43) #[] #[]) w := fun _ => by kernel_rfl
  have i2 : ∀ w, (Instr.index 84 (.agg kfs) (.int .i64 2)).run Tryd.prog w = .ok (.func (.func 45) #[] #[]) w := fun _ => by kernel_rfl
  have i3 : ∀ w, (Instr.index 84 (.agg kfs) (.int .i64 3)).run Tryd.prog w = .ok (.func (.func 47) #[] #[]) w := fun _ => by kernel_rfl
  have i4 : ∀ w, (Instr.index 84 (.agg kfs) (.int .i64 4)).run Tryd.prog w = .ok (.func (.func 49) #[] #[]) w := fun _ => by kernel_rfl
  have i5 : ∀ w, (Instr.index 84 (.agg kfs) (.int .i64 5)).run Tryd.prog w = .ok (.func (.func 50) #[] #[]) w := fun _ => by kernel_rfl
  have X0 := Lib.hid (show (kl x)[0]? = some (.int .i64 ((UInt8.ofNat x.k.toNat).toNat : Int)) from congrArg some (byte_of hx.k))
  have X1 := Lib.hid (show (kl x)[4]? = some (.int .i64 ((UInt8.ofNat x.r.toNat).toNat : Int)) from congrArg some (byte_of hx.r))
  have X2 := Lib.hid (show (kl x)[1]? = some (.int .i64 (x.o.toNat : Int)) from congrArg some (nat_of hx.o.1))
  have X3 := Lib.hid (show x.o.toNat < 256 ^ 2 by have := hx.o; omega)
  have X4 := Lib.hid (show (kl x)[2]? = some (.int .i64 (x.c.toNat : Int)) from congrArg some (nat_of hx.c.1))
  have X5 := Lib.hid (show x.c.toNat < 256 ^ 4 by have := hx.c; omega)
  have X6 := Lib.hid (show (kl x)[3]? = some (.int .i64 (x.l.toNat : Int)) from congrArg some (nat_of hx.l.1))
  have X7 := Lib.hid (show x.l.toNat < 256 ^ 4 by have := hx.l; omega)
  have X8 := Lib.hid hx.v.1
  have X9 := Lib.hid hx.v.2
  have HW := Lib.hid hW
  have HK := Lib.hid hK
  have HO := Lib.hid ho
  have Y0 := Lib.hid (show d.length + 1 ≤ n by omega)
  have Y1 := Lib.hid (show (d ++ [UInt8.ofNat x.k.toNat]).length + 1 ≤ n by simp only [List.length_append, List.length_cons, List.length_nil]; omega)
  have Y2 := Lib.hid (show ((d ++ [UInt8.ofNat x.k.toNat]) ++ [UInt8.ofNat x.r.toNat]).length + 2 ≤ n by simp only [List.length_append, List.length_cons, List.length_nil]; omega)
  have Y3 := Lib.hid (show (((d ++ [UInt8.ofNat x.k.toNat]) ++ [UInt8.ofNat x.r.toNat]) ++ bytesLE 2 x.o.toNat).length + 4 ≤ n by simp only [List.length_append, List.length_cons, List.length_nil, bytesLE_length]; omega)
  have Y4 := Lib.hid (show ((((d ++ [UInt8.ofNat x.k.toNat]) ++ [UInt8.ofNat x.r.toNat]) ++ bytesLE 2 x.o.toNat) ++ bytesLE 4 x.c.toNat).length + 4 ≤ n by simp only [List.length_append, List.length_cons, List.length_nil, bytesLE_length]; omega)
  have Y5 := Lib.hid (show (((((d ++ [UInt8.ofNat x.k.toNat]) ++ [UInt8.ofNat x.r.toNat]) ++ bytesLE 2 x.o.toNat) ++ bytesLE 4 x.c.toNat) ++ bytesLE 4 x.l.toNat).length + 8 ≤ n by simp only [List.length_append, List.length_cons, List.length_nil, bytesLE_length]; omega)
  clear hW hK ho hx hfit
  go_enter Tryd.func14, Tryd.ntmps14
  go_wp2_with (go_at_call 29; refine (keyFields_any _).mono ?_; rintro e w0 ⟨rfl, hb0⟩; have A0 := Lib.hid (HW.out.below hb0); have K0 := Lib.hid (HK.out.keep hb0); have F0 := Lib.hid (Fr.of_below (S := fun j => j = g ∨ j = B ∨ j = K) hb0); clear hb0)
  refine wp_loop_rounds 7 ?_
  rw [rounds_succ]
  go_wp2_with (go_at_call 41; refine (kf0_w g B K o t tk n d (UInt8.ofNat x.k.toNat) a (kl x) b _ A0.out HO.out rfl K0.out X0.out Y0.out hg hB).mono ?_; rintro e w1 ⟨rfl, h1, h2, h3⟩; have A1 := Lib.hid h1; have K1 := Lib.hid h2; have F1 := Lib.hid (F0.out.trans h3); clear h1 h2 h3 A0 K0 F0)
  rw [rounds_succ]
  go_wp2_with (go_at_call 43; refine (kf1_w g B K o t tk n (d ++ [UInt8.ofNat x.k.toNat]) (UInt8.ofNat x.r.toNat) a (kl x) b _ A1.out HO.out rfl K1.out X1.out Y1.out hg hB).mono ?_; rintro e w2 ⟨rfl, h1, h2, h3⟩; have A2 := Lib.hid h1; have K2 := Lib.hid h2; have F2 := Lib.hid (F1.out.trans h3); clear h1 h2 h3 A1 K1 F1)
  rw [rounds_succ]
  go_wp2_with (go_at_call 45; refine (kf2_w g B K o t tk n ((d ++ [UInt8.ofNat x.k.toNat]) ++ [UInt8.ofNat x.r.toNat]) x.o.toNat a (kl x) b _ A2.out HO.out rfl K2.out X2.out X3.out Y2.out hg hB).mono ?_; rintro e w3 ⟨rfl, h1, h2, h3⟩; have A3 := Lib.hid h1; have K3 := Lib.hid h2; have F3 := Lib.hid (F2.out.trans h3); clear h1 h2 h3 A2 K2 F2)
  rw [rounds_succ]
  go_wp2_with (go_at_call 47; refine (kf3_w g B K o t tk n (((d ++ [UInt8.ofNat x.k.toNat]) ++ [UInt8.ofNat x.r.toNat]) ++ bytesLE 2 x.o.toNat) x.c.toNat a (kl x) b _ A3.out HO.out rfl K3.out X4.out X5.out Y3.out hg hB).mono ?_; rintro e w4 ⟨rfl, h1, h2, h3⟩; have A4 := Lib.hid h1; have K4 := Lib.hid h2; have F4 := Lib.hid (F3.out.trans h3); clear h1 h2 h3 A3 K3 F3)
  rw [rounds_succ]
  go_wp2_with (go_at_call 49; refine (kf4_w g B K o t tk n ((((d ++ [UInt8.ofNat x.k.toNat]) ++ [UInt8.ofNat x.r.toNat]) ++ bytesLE 2 x.o.toNat) ++ bytesLE 4 x.c.toNat) x.l.toNat a (kl x) b _ A4.out HO.out rfl K4.out X6.out X7.out Y4.out hg hB).mono ?_; rintro e w5 ⟨rfl, h1, h2, h3⟩; have A5 := Lib.hid h1; have K5 := Lib.hid h2; have F5 := Lib.hid (F4.out.trans h3); clear h1 h2 h3 A4 K4 F4)
  rw [rounds_succ]
  go_wp2_with (go_at_call 50; refine (kf5_w g B K o t tk n (((((d ++ [UInt8.ofNat x.k.toNat]) ++ [UInt8.ofNat x.r.toNat]) ++ bytesLE 2 x.o.toNat) ++ bytesLE 4 x.c.toNat) ++ bytesLE 4 x.l.toNat) x.v a (kl x) b _ A5.out HO.out rfl K5.out rfl X8.out X9.out Y5.out hg hB).mono ?_; rintro e w6 ⟨rfl, h1, h2, h3⟩; have A6 := Lib.hid h1; have K6 := Lib.hid h2; have F6 := Lib.hid (F5.out.trans h3); clear h1 h2 h3 A5 K5 F5)
  rw [rounds_succ]
  go_wp2
  go_end0
  have h := A6.out
  rw [List.append_assoc, List.append_assoc, List.append_assoc, List.append_assoc, List.append_assoc] at h
  exact ⟨rfl, h, K6.out, F6.out⟩
set_option maxRecDepth 8000 in
set_option maxHeartbeats 1000000 in
theorem passKey_r (g s K o : Nat) (tk : TypeId) (l : List UInt8) (a b : List Value) (w : World) (hW : RdAt w g s l) (ho : a.length = o) (hK : Blk w K tk (mid a (kl zk) b)) (hl : 20 ≤ l.length) (hg : K ≠ g) (hs : K ≠ s) :
    Calls Tryd.prog 14 #[rdi g, .pointer (some ⟨K, o, none⟩)] w fun e w' => e = .returned (.tuple #[]) ∧ RdAt w' g s (l.drop 20) ∧ Blk w' K tk (mid a (kl (kof l)) b) ∧ Fr (fun j => j = g ∨ j = K) w w' := by
  have i0 : ∀ w, (Instr.index 84 (.agg kfs) (.int .i64 0)).run Tryd.prog w = .ok (.func (.func 41) #[] #[]) w := fun _ => by kernel_rfl
  have i1 : ∀ w, (Instr.index 84 (.agg kfs) (.int .i64 1)).run Tryd.prog w = .ok (.func (.func 43) #[] #[]) w := fun _ => by kernel_rfl
  have i2 : ∀ w, (Instr.index 84 (.agg kfs) (.int .i64 2)).run Tryd.prog w = .ok (.func (.func 45) #[] #[]) w := fun _ => by kernel_rfl
  have i3 : ∀ w, (Instr.index 84 (.agg kfs) (.int .i64 3)).run Tryd.prog w = .ok (.func (.func 47) #[] #[]) w := fun _ => by kernel_rfl
  have i4 : ∀ w, (Instr.index 84 (.agg kfs) (.int .i64 4)).run Tryd.prog w = .ok (.func (.func 49) #[] #[]) w := fun _ => by kernel_rfl
  have i5 : ∀ w, (Instr.index 84 (.agg kfs) (.int .i64 5)).run Tryd.prog w = .ok (.func (.func 50) #[] #[]) w := fun _ => by kernel_rfl
  have HW := Lib.hid hW
  have HK := Lib.hid hK
  have HO := Lib.hid ho
  have Y0 := Lib.hid (show 1 ≤ l.length by omega)
  have Y1 := Lib.hid (show 1 ≤ (l.drop 1).length by simp only [List.length_drop]; omega)
  have Y2 := Lib.hid (show 2 ≤ (l.drop 2).length by simp only [List.length_drop]; omega)
  have Y3 := Lib.hid (show 4 ≤ (l.drop 4).length by simp only [List.length_drop]; omega)
  have Y4 := Lib.hid (show 4 ≤ (l.drop 8).length by simp only [List.length_drop]; omega)
  have Y5 := Lib.hid (show 8 ≤ (l.drop 12).length by simp only [List.length_drop]; omega)
  clear hW hK ho hl
  go_enter Tryd.func14, Tryd.ntmps14
  go_wp2_with (go_at_call 29; refine (keyFields_any _).mono ?_; rintro e w0 ⟨rfl, hb0⟩; have A0 := Lib.hid (HW.out.below hb0); have K0 := Lib.hid (HK.out.keep hb0); have F0 := Lib.hid (Fr.of_below (S := fun j => j = g ∨ j = K) hb0); clear hb0)
  refine wp_loop_rounds 7 ?_
  rw [rounds_succ]
  go_wp2_with (go_at_call 41; refine (kf0_r g s K o tk l a (kl zk) b _ A0.out HO.out rfl K0.out rfl Y0.out hg hs).mono ?_; rintro e w1 ⟨rfl, h1, h2, h3⟩; have A1 := Lib.hid (show RdAt w1 g s (l.drop 1) by exact h1); have K1 := Lib.hid h2; have F1 := Lib.hid (F0.out.trans h3); clear h1 h2 h3 A0 K0 F0)
  rw [rounds_succ]
  go_wp2_with (go_at_call 43; refine (kf1_r g s K o tk (l.drop 1) a ((kl zk).set 0 (.int .i64 ((b0 l).toNat : Int))) b _ A1.out HO.out rfl K1.out rfl Y1.out hg hs).mono ?_; rintro e w2 ⟨rfl, h1, h2, h3⟩; have A2 := Lib.hid (show RdAt w2 g s (l.drop 2) by rw [List.drop_drop] at h1; exact h1); have K2 := Lib.hid h2; have F2 := Lib.hid (F1.out.trans h3); clear h1 h2 h3 A1 K1 F1)
  rw [rounds_succ]
  go_wp2_with (go_at_call 45; refine (kf2_r g s K o tk (l.drop 2) a (((kl zk).set 0 (.int .i64 ((b0 l).toNat : Int))).set 4 (.int .i64 ((b0 (l.drop 1)).toNat : Int))) b _ A2.out HO.out rfl K2.out rfl Y2.out hg hs).mono ?_; rintro e w3 ⟨rfl, h1, h2, h3⟩; have A3 := Lib.hid (show RdAt w3 g s (l.drop 4) by rw [List.drop_drop] at h1; exact h1); have K3 := Lib.hid h2; have F3 := Lib.hid (F2.out.trans h3); clear h1 h2 h3 A2 K2 F2)
  rw [rounds_succ]
  go_wp2_with (go_at_call 47; refine (kf3_r g s K o tk (l.drop 4) a ((((kl zk).set 0 (.int .i64 ((b0 l).toNat : Int))).set 4 (.int .i64 ((b0 (l.drop 1)).toNat : Int))).set 1 (.int .i64 (numLE ((l.drop 2).take 2) : Int))) b _ A3.out HO.out rfl K3.out rfl Y3.out hg hs).mono ?_; rintro e w4 ⟨rfl, h1, h2, h3⟩; have A4 := Lib.hid (show RdAt w4 g s (l.drop 8) by rw [List.drop_drop] at h1; exact h1); have K4 := Lib.hid h2; have F4 := Lib.hid (F3.out.trans h3); clear h1 h2 h3 A3 K3 F3)
  rw [rounds_succ]
  go_wp2_with (go_at_call 49; refine (kf4_r g s K o tk (l.drop 8) a (((((kl zk).set 0 (.int .i64 ((b0 l).toNat : Int))).set 4 (.int .i64 ((b0 (l.drop 1)).toNat : Int))).set 1 (.int .i64 (numLE ((l.drop 2).take 2) : Int))).set 2 (.int .i64 (numLE ((l.drop 4).take 4) : Int))) b _ A4.out HO.out rfl K4.out rfl Y4.out hg hs).mono ?_; rintro e w5 ⟨rfl, h1, h2, h3⟩; have A5 := Lib.hid (show RdAt w5 g s (l.drop 12) by rw [List.drop_drop] at h1; exact h1); have K5 := Lib.hid h2; have F5 := Lib.hid (F4.out.trans h3); clear h1 h2 h3 A4 K4 F4)
  rw [rounds_succ]
  go_wp2_with (go_at_call 50; refine (kf5_r g s K o tk (l.drop 12) a ((((((kl zk).set 0 (.int .i64 ((b0 l).toNat : Int))).set 4 (.int .i64 ((b0 (l.drop 1)).toNat : Int))).set 1 (.int .i64 (numLE ((l.drop 2).take 2) : Int))).set 2 (.int .i64 (numLE ((l.drop 4).take 4) : Int))).set 3 (.int .i64 (numLE ((l.drop 8).take 4) : Int))) b _ A5.out HO.out rfl K5.out rfl Y5.out hg hs).mono ?_; rintro e w6 ⟨rfl, h1, h2, h3⟩; have A6 := Lib.hid (show RdAt w6 g s (l.drop 20) by rw [List.drop_drop] at h1; exact h1); have K6 := Lib.hid h2; have F6 := Lib.hid (F5.out.trans h3); clear h1 h2 h3 A5 K5 F5)
  rw [rounds_succ]
  go_wp2
  go_end0
  exact ⟨rfl, A6.out, K6.out, F6.out⟩
set_option maxRecDepth 8000 in
set_option maxHeartbeats 1000000 in
theorem passKey_n0 (g s K o : Nat) (tk : TypeId) (l : List UInt8) (a b : List Value) (w : World) (hW : RdAt w g s l) (ho : a.length = o) (hK : Blk w K tk (mid a (kl zk) b)) (hl : 0 ≤ l.length ∧ l.length < 1) :
    Calls Tryd.prog 14 #[rdi g, .pointer (some ⟨K, o, none⟩)] w fun e w' => e = .panicked (erc 151) ∧ Fr (fun j => j = g ∨ j = K) w w' := by
  have i0 : ∀ w, (Instr.index 84 (.agg kfs) (.int .i64 0)).run Tryd.prog w = .ok (.func (.func 41) #[] #[]) w := fun _ => by kernel_rfl
  have HW := Lib.hid hW
  have HK := Lib.hid hK
  have HO := Lib.hid ho
  have Y0 := Lib.hid (show l.length < 1 by omega)
  clear hW hK ho hl
  go_enter Tryd.func14, Tryd.ntmps14
  go_wp2_with (go_at_call 29; refine (keyFields_any _).mono ?_; rintro e w0 ⟨rfl, hb0⟩; have A0 := Lib.hid (HW.out.below hb0); have K0 := Lib.hid (HK.out.keep hb0); have F0 := Lib.hid (Fr.of_below (S := fun j => j = g ∨ j = K) hb0); clear hb0)
  refine wp_loop_rounds 7 ?_
  rw [rounds_succ]
  go_wp2_with (go_at_call 41; refine (kf0_no g s K o tk l a (kl zk) b _ A0.out HO.out rfl K0.out rfl Y0.out).mono ?_; rintro e w1 ⟨rfl, h1⟩; have F1 := Lib.hid (F0.out.trans (h1.mono (fun _ _ h => .inl h))))
  exact ⟨rfl, rfl, F1.out⟩
set_option maxRecDepth 8000 in
set_option maxHeartbeats 1000000 in
theorem passKey_n1 (g s K o : Nat) (tk : TypeId) (l : List UInt8) (a b : List Value) (w : World) (hW : RdAt w g s l) (ho : a.length = o) (hK : Blk w K tk (mid a (kl zk) b)) (hl : 1 ≤ l.length ∧ l.length < 2) (hg : K ≠ g) (hs : K ≠ s) :
    Calls Tryd.prog 14 #[rdi g, .pointer (some ⟨K, o, none⟩)] w fun e w' => e = .panicked (erc 151) ∧ Fr (fun j => j = g ∨ j = K) w w' := by
  have i0 : ∀ w, (Instr.index 84 (.agg kfs) (.int .i64 0)).run Tryd.prog w = .ok (.func (.func 41) #[] #[]) w := fun _ => by kernel_rfl
  have i1 : ∀ w, (Instr.index 84 (.agg kfs) (.int .i64 1)).run Tryd.prog w = .ok (.func (.func 43) #[] #[]) w := fun _ => by kernel_rfl
  have HW := Lib.hid hW
  have HK := Lib.hid hK
  have HO := Lib.hid ho
  have Y0 := Lib.hid (show 1 ≤ l.length by omega)
  have Y1 := Lib.hid (show (l.drop 1).length < 1 by simp only [List.length_drop]; omega)
  clear hW hK ho hl
  go_enter Tryd.func14, Tryd.ntmps14
  go_wp2_with (go_at_call 29; refine (keyFields_any _).mono ?_; rintro e w0 ⟨rfl, hb0⟩; have A0 := Lib.hid (HW.out.below hb0); have K0 := Lib.hid (HK.out.keep hb0); have F0 := Lib.hid (Fr.of_below (S := fun j => j = g ∨ j = K) hb0); clear hb0)
  refine wp_loop_rounds 7 ?_
  rw [rounds_succ]
  go_wp2_with (go_at_call 41; refine (kf0_r g s K o tk l a (kl zk) b _ A0.out HO.out rfl K0.out rfl Y0.out hg hs).mono ?_; rintro e w1 ⟨rfl, h1, h2, h3⟩; have A1 := Lib.hid (show RdAt w1 g s (l.drop 1) by exact h1); have K1 := Lib.hid h2; have F1 := Lib.hid (F0.out.trans h3); clear h1 h2 h3 A0 K0 F0)
  rw [rounds_succ]
  go_wp2_with (go_at_call 43; refine (kf1_no g s K o tk (l.drop 1) a ((kl zk).set 0 (.int .i64 ((b0 l).toNat : Int))) b _ A1.out HO.out rfl K1.out rfl Y1.out).mono ?_; rintro e w2 ⟨rfl, h1⟩; have F2 := Lib.hid (F1.out.trans (h1.mono (fun _ _ h => .inl h))))
  exact ⟨rfl, rfl, F2.out⟩
set_option maxRecDepth 8000 in
set_option maxHeartbeats 1000000 in
theorem passKey_n2 (g s K o : Nat) (tk : TypeId) (l : List UInt8) (a b : List Value) (w : World) (hW : RdAt w g s l) (ho : a.length = o) (hK : Blk w K tk (mid a (kl zk) b)) (hl : 2 ≤ l.length ∧ l.length < 4) (hg : K ≠ g) (hs : K ≠ s) :
    Calls Tryd.prog 14 #[rdi g, .pointer (some ⟨K, o, none⟩)] w fun e w' => e = .panicked (erc 151) ∧ Fr (fun j => j = g ∨ j = K) w w' := by
  have i0 : ∀ w, (Instr.index 84 (.agg kfs) (.int .i64 0)).run Tryd.prog w = .ok (.func (.func 41) #[] #[]) w := fun _ => by kernel_rfl
  have i1 : ∀ w, (Instr.index 84 (.agg kfs) (.int .i64 1)).run Tryd.prog w = .ok (.func (.func 43) #[] #[]) w := fun _ => by kernel_rfl
  have i2 : ∀ w, (Instr.index 84 (.agg kfs) (.int .i64 2)).run Tryd.prog w = .ok (.func (.func 45) #[] #[]) w := fun _ => by kernel_rfl
  have HW := Lib.hid hW
  have HK := Lib.hid hK
  have HO := Lib.hid ho
  have Y0 := Lib.hid (show 1 ≤ l.length by omega)
  have Y1 := Lib.hid (show 1 ≤ (l.drop 1).length by simp only [List.length_drop]; omega)
  have Y2 := Lib.hid (show (l.drop 2).length < 2 by simp only [List.length_drop]; omega)
  clear hW hK ho hl
  go_enter Tryd.func14, Tryd.ntmps14
  go_wp2_with (go_at_call 29; refine (keyFields_any _).mono ?_; rintro e w0 ⟨rfl, hb0⟩; have A0 := Lib.hid (HW.out.below hb0); have K0 := Lib.hid (HK.out.keep hb0); have F0 := Lib.hid (Fr.of_below (S := fun j => j = g ∨ j = K) hb0); clear hb0)
  refine wp_loop_rounds 7 ?_
  rw [rounds_succ]
  go_wp2_with (go_at_call 41; refine (kf0_r g s K o tk l a (kl zk) b _ A0.out HO.out rfl K0.out rfl Y0.out hg hs).mono ?_; rintro e w1 ⟨rfl, h1, h2, h3⟩; have A1 := Lib.hid (show RdAt w1 g s (l.drop 1) by exact h1); have K1 := Lib.hid h2; have F1 := Lib.hid (F0.out.trans h3); clear h1 h2 h3 A0 K0 F0)
  rw [rounds_succ]
  go_wp2_with (go_at_call 43; refine (kf1_r g s K o tk (l.drop 1) a ((kl zk).set 0 (.int .i64 ((b0 l).toNat : Int))) b _ A1.out HO.out rfl K1.out rfl Y1.out hg hs).mono ?_; rintro e w2 ⟨rfl, h1, h2, h3⟩; have A2 := Lib.hid (show RdAt w2 g s (l.drop 2) by rw [List.drop_drop] at h1; exact h1); have K2 := Lib.hid h2; have F2 := Lib.hid (F1.out.trans h3); clear h1 h2 h3 A1 K1 F1)
  rw [rounds_succ]
  go_wp2_with (go_at_call 45; refine (kf2_no g s K o tk (l.drop 2) a (((kl zk).set 0 (.int .i64 ((b0 l).toNat : Int))).set 4 (.int .i64 ((b0 (l.drop 1)).toNat : Int))) b _ A2.out HO.out rfl K2.out rfl Y2.out).mono ?_; rintro e w3 ⟨rfl, h1⟩; have F3 := Lib.hid (F2.out.trans (h1.mono (fun _ _ h => .inl h))))
  exact ⟨rfl, rfl, F3.out⟩
set_option maxRecDepth 8000 in
set_option maxHeartbeats 1000000 in
theorem passKey_n3 (g s K o : Nat) (tk : TypeId) (l : List UInt8) (a b : List Value) (w : World) (hW : RdAt w g s l) (ho : a.length = o) (hK : Blk w K tk (mid a (kl zk) b)) (hl : 4 ≤ l.length ∧ l.length < 8) (hg : K ≠ g) (hs : K ≠ s) :
    Calls Tryd.prog 14 #[rdi g, .pointer (some ⟨K, o, none⟩)] w fun e w' => e = .panicked (erc 151) ∧ Fr (fun j => j = g ∨ j = K) w w' := by
  have i0 : ∀ w, (Instr.index 84 (.agg kfs) (.int .i64 0)).run Tryd.prog w = .ok (.func (.func 41) #[] #[]) w := fun _ => by kernel_rfl
  have i1 : ∀ w, (Instr.index 84 (.agg kfs) (.int .i64 1)).run Tryd.prog w = .ok (.func (.func 43) #[] #[]) w := fun _ => by kernel_rfl
  have i2 : ∀ w, (Instr.index 84 (.agg kfs) (.int .i64 2)).run Tryd.prog w = .ok (.func (.func 45) #[] #[]) w := fun _ => by kernel_rfl
  have i3 : ∀ w, (Instr.index 84 (.agg kfs) (.int .i64 3)).run Tryd.prog w = .ok (.func (.func 47) #[] #[]) w := fun _ => by kernel_rfl
  have HW := Lib.hid hW
  have HK := Lib.hid hK
  have HO := Lib.hid ho
  have Y0 := Lib.hid (show 1 ≤ l.length by omega)
  have Y1 := Lib.hid (show 1 ≤ (l.drop 1).length by simp only [List.length_drop]; omega)
  have Y2 := Lib.hid (show 2 ≤ (l.drop 2).length by simp only [List.length_drop]; omega)
  have Y3 := Lib.hid (show (l.drop 4).length < 4 by simp only [List.length_drop]; omega)
  clear hW hK ho hl
  go_enter Tryd.func14, Tryd.ntmps14
  go_wp2_with (go_at_call 29; refine (keyFields_any _).mono ?_; rintro e w0 ⟨rfl, hb0⟩; have A0 := Lib.hid (HW.out.below hb0); have K0 := Lib.hid (HK.out.keep hb0); have F0 := Lib.hid (Fr.of_below (S := fun j => j = g ∨ j = K) hb0); clear hb0)
  refine wp_loop_rounds 7 ?_
  rw [rounds_succ]
  go_wp2_with (go_at_call 41; refine (kf0_r g s K o tk l a (kl zk) b _ A0.out HO.out rfl K0.out rfl Y0.out hg hs).mono ?_; rintro e w1 ⟨rfl, h1, h2, h3⟩; have A1 := Lib.hid (show RdAt w1 g s (l.drop 1) by exact h1); have K1 := Lib.hid h2; have F1 := Lib.hid (F0.out.trans h3); clear h1 h2 h3 A0 K0 F0)
  rw [rounds_succ]
  go_wp2_with (go_at_call 43; refine (kf1_r g s K o tk (l.drop 1) a ((kl zk).set 0 (.int .i64 ((b0 l).toNat : Int))) b _ A1.out HO.out rfl K1.out rfl Y1.out hg hs).mono ?_; rintro e w2 ⟨rfl, h1, h2, h3⟩; have A2 := Lib.hid (show RdAt w2 g s (l.drop 2) by rw [List.drop_drop] at h1; exact h1); have K2 := Lib.hid h2; have F2 := Lib.hid (F1.out.trans h3); clear h1 h2 h3 A1 K1 F1)
  rw [rounds_succ]
  go_wp2_with (go_at_call 45; refine (kf2_r g s K o tk (l.drop 2) a (((kl zk).set 0 (.int .i64 ((b0 l).toNat : Int))).set 4 (.int .i64 ((b0 (l.drop 1)).toNat : Int))) b _ A2.out HO.out rfl K2.out rfl Y2.out hg hs).mono ?_; rintro e w3 ⟨rfl, h1, h2, h3⟩; have A3 := Lib.hid (show RdAt w3 g s (l.drop 4) by rw [List.drop_drop] at h1; exact h1); have K3 := Lib.hid h2; have F3 := Lib.hid (F2.out.trans h3); clear h1 h2 h3 A2 K2 F2)
  rw [rounds_succ]
  go_wp2_with (go_at_call 47; refine (kf3_no g s K o tk (l.drop 4) a ((((kl zk).set 0 (.int .i64 ((b0 l).toNat : Int))).set 4 (.int .i64 ((b0 (l.drop 1)).toNat : Int))).set 1 (.int .i64 (numLE ((l.drop 2).take 2) : Int))) b _ A3.out HO.out rfl K3.out rfl Y3.out).mono ?_; rintro e w4 ⟨rfl, h1⟩; have F4 := Lib.hid (F3.out.trans (h1.mono (fun _ _ h => .inl h))))
  exact ⟨rfl, rfl, F4.out⟩
set_option maxRecDepth 8000 in
set_option maxHeartbeats 1000000 in
theorem passKey_n4 (g s K o : Nat) (tk : TypeId) (l : List UInt8) (a b : List Value) (w : World) (hW : RdAt w g s l) (ho : a.length = o) (hK : Blk w K tk (mid a (kl zk) b)) (hl : 8 ≤ l.length ∧ l.length < 12) (hg : K ≠ g) (hs : K ≠ s) :
    Calls Tryd.prog 14 #[rdi g, .pointer (some ⟨K, o, none⟩)] w fun e w' => e = .panicked (erc 151) ∧ Fr (fun j => j = g ∨ j = K) w w' := by
  have i0 : ∀ w, (Instr.index 84 (.agg kfs) (.int .i64 0)).run Tryd.prog w = .ok (.func (.func 41) #[] #[]) w := fun _ => by kernel_rfl
  have i1 : ∀ w, (Instr.index 84 (.agg kfs) (.int .i64 1)).run Tryd.prog w = .ok (.func (.func 43) #[] #[]) w := fun _ => by kernel_rfl
  have i2 : ∀ w, (Instr.index 84 (.agg kfs) (.int .i64 2)).run Tryd.prog w = .ok (.func (.func 45) #[] #[]) w := fun _ => by kernel_rfl
  have i3 : ∀ w, (Instr.index 84 (.agg kfs) (.int .i64 3)).run Tryd.prog w = .ok (.func (.func 47) #[] #[]) w := fun _ => by kernel_rfl
  have i4 : ∀ w, (Instr.index 84 (.agg kfs) (.int .i64 4)).run Tryd.prog w = .ok (.func (.func 49) #[] #[]) w := fun _ => by kernel_rfl
  have HW := Lib.hid hW
  have HK := Lib.hid hK
  have HO := Lib.hid ho
  have Y0 := Lib.hid (show 1 ≤ l.length by omega)
  have Y1 := Lib.hid (show 1 ≤ (l.drop 1).length by simp only [List.length_drop]; omega)
  have Y2 := Lib.hid (show 2 ≤ (l.drop 2).length by simp only [List.length_drop]; omega)
  have Y3 := Lib.hid (show 4 ≤ (l.drop 4).length by simp only [List.length_drop]; omega)
  have Y4 := Lib.hid (show (l.drop 8).length < 4 by simp only [List.length_drop]; omega)
  clear hW hK ho hl
  go_enter Tryd.func14, Tryd.ntmps14
  go_wp2_with (go_at_call 29; refine (keyFields_any _).mono ?_; rintro e w0 ⟨rfl, hb0⟩; have A0 := Lib.hid (HW.out.below hb0); have K0 := Lib.hid (HK.out.keep hb0); have F0 := Lib.hid (Fr.of_below (S := fun j => j = g ∨ j = K) hb0); clear hb0)
  refine wp_loop_rounds 7 ?_
  rw [rounds_succ]
  go_wp2_with (go_at_call 41; refine (kf0_r g s K o tk l a (kl zk) b _ A0.out HO.out rfl K0.out rfl Y0.out hg hs).mono ?_; rintro e w1 ⟨rfl, h1, h2, h3⟩; have A1 := Lib.hid (show RdAt w1 g s (l.drop 1) by exact h1); have K1 := Lib.hid h2; have F1 := Lib.hid (F0.out.trans h3); clear h1 h2 h3 A0 K0 F0)
  rw [rounds_succ]
  go_wp2_with (go_at_call 43; refine (kf1_r g s K o tk (l.drop 1) a ((kl zk).set 0 (.int .i64 ((b0 l).toNat : Int))) b _ A1.out HO.out rfl K1.out rfl Y1.out hg hs).mono ?_; rintro e w2 ⟨rfl, h1, h2, h3⟩; have A2 := Lib.hid (show RdAt w2 g s (l.drop 2) by rw [List.drop_drop] at h1; exact h1); have K2 := Lib.hid h2; have F2 := Lib.hid (F1.out.trans h3); clear h1 h2 h3 A1 K1 F1)
  rw [rounds_succ]
  go_wp2_with (go_at_call 45; refine (kf2_r g s K o tk (l.drop 2) a (((kl zk).set 0 (.int .i64 ((b0 l).toNat : Int))).set 4 (.int .i64 ((b0 (l.drop 1)).toNat : Int))) b _ A2.out HO.out rfl K2.out rfl Y2.out hg hs).mono ?_; rintro e w3 ⟨rfl, h1, h2, h3⟩; have A3 := Lib.hid (show RdAt w3 g s (l.drop 4) by rw [List.drop_drop] at h1; exact h1); have K3 := Lib.hid h2; have F3 := Lib.hid (F2.out.trans h3); clear h1 h2 h3 A2 K2 F2)
  rw [rounds_succ]
  go_wp2_with (go_at_call 47; refine (kf3_r g s K o tk (l.drop 4) a ((((kl zk).set 0 (.int .i64 ((b0 l).toNat : Int))).set 4 (.int .i64 ((b0 (l.drop 1)).toNat : Int))).set 1 (.int .i64 (numLE ((l.drop 2).take 2) : Int))) b _ A3.out HO.out rfl K3.out rfl Y3.out hg hs).mono ?_; rintro e w4 ⟨rfl, h1, h2, h3⟩; have A4 := Lib.hid (show RdAt w4 g s (l.drop 8) by rw [List.drop_drop] at h1; exact h1); have K4 := Lib.hid h2; have F4 := Lib.hid (F3.out.trans h3); clear h1 h2 h3 A3 K3 F3)
  rw [rounds_succ]
  go_wp2_with (go_at_call 49; refine (kf4_no g s K o tk (l.drop 8) a (((((kl zk).set 0 (.int .i64 ((b0 l).toNat : Int))).set 4 (.int .i64 ((b0 (l.drop 1)).toNat : Int))).set 1 (.int .i64 (numLE ((l.drop 2).take 2) : Int))).set 2 (.int .i64 (numLE ((l.drop 4).take 4) : Int))) b _ A4.out HO.out rfl K4.out rfl Y4.out).mono ?_; rintro e w5 ⟨rfl, h1⟩; have F5 := Lib.hid (F4.out.trans (h1.mono (fun _ _ h => .inl h))))
  exact ⟨rfl, rfl, F5.out⟩
set_option maxRecDepth 8000 in
set_option maxHeartbeats 1000000 in
theorem passKey_n5 (g s K o : Nat) (tk : TypeId) (l : List UInt8) (a b : List Value) (w : World) (hW : RdAt w g s l) (ho : a.length = o) (hK : Blk w K tk (mid a (kl zk) b)) (hl : 12 ≤ l.length ∧ l.length < 20) (hg : K ≠ g) (hs : K ≠ s) :
    Calls Tryd.prog 14 #[rdi g, .pointer (some ⟨K, o, none⟩)] w fun e w' => e = .panicked (erc 151) ∧ Fr (fun j => j = g ∨ j = K) w w' := by
  have i0 : ∀ w, (Instr.index 84 (.agg kfs) (.int .i64 0)).run Tryd.prog w = .ok (.func (.func 41) #[] #[]) w := fun _ => by kernel_rfl
  have i1 : ∀ w, (Instr.index 84 (.agg kfs) (.int .i64 1)).run Tryd.prog w = .ok (.func (.func 43) #[] #[]) w := fun _ => by kernel_rfl
  have i2 : ∀ w, (Instr.index 84 (.agg kfs) (.int .i64 2)).run Tryd.prog w = .ok (.func (.func 45) #[] #[]) w := fun _ => by kernel_rfl
  have i3 : ∀ w, (Instr.index 84 (.agg kfs) (.int .i64 3)).run Tryd.prog w = .ok (.func (.func 47) #[] #[]) w := fun _ => by kernel_rfl
  have i4 : ∀ w, (Instr.index 84 (.agg kfs) (.int .i64 4)).run Tryd.prog w = .ok (.func (.func 49) #[] #[]) w := fun _ => by kernel_rfl
  have i5 : ∀ w, (Instr.index 84 (.agg kfs) (.int .i64 5)).run Tryd.prog w = .ok (.func (.func 50) #[] #[]) w := fun _ => by kernel_rfl
  have HW := Lib.hid hW
  have HK := Lib.hid hK
  have HO := Lib.hid ho
  have Y0 := Lib.hid (show 1 ≤ l.length by omega)
  have Y1 := Lib.hid (show 1 ≤ (l.drop 1).length by simp only [List.length_drop]; omega)
  have Y2 := Lib.hid (show 2 ≤ (l.drop 2).length by simp only [List.length_drop]; omega)
  have Y3 := Lib.hid (show 4 ≤ (l.drop 4).length by simp only [List.length_drop]; omega)
  have Y4 := Lib.hid (show 4 ≤ (l.drop 8).length by simp only [List.length_drop]; omega)
  have Y5 := Lib.hid (show (l.drop 12).length < 8 by simp only [List.length_drop]; omega)
  clear hW hK ho hl
  go_enter Tryd.func14, Tryd.ntmps14
  go_wp2_with (go_at_call 29; refine (keyFields_any _).mono ?_; rintro e w0 ⟨rfl, hb0⟩; have A0 := Lib.hid (HW.out.below hb0); have K0 := Lib.hid (HK.out.keep hb0); have F0 := Lib.hid (Fr.of_below (S := fun j => j = g ∨ j = K) hb0); clear hb0)
  refine wp_loop_rounds 7 ?_
  rw [rounds_succ]
  go_wp2_with (go_at_call 41; refine (kf0_r g s K o tk l a (kl zk) b _ A0.out HO.out rfl K0.out rfl Y0.out hg hs).mono ?_; rintro e w1 ⟨rfl, h1, h2, h3⟩; have A1 := Lib.hid (show RdAt w1 g s (l.drop 1) by exact h1); have K1 := Lib.hid h2; have F1 := Lib.hid (F0.out.trans h3); clear h1 h2 h3 A0 K0 F0)
  rw [rounds_succ]
  go_wp2_with (go_at_call 43; refine (kf1_r g s K o tk (l.drop 1) a ((kl zk).set 0 (.int .i64 ((b0 l).toNat : Int))) b _ A1.out HO.out rfl K1.out rfl Y1.out hg hs).mono ?_; rintro e w2 ⟨rfl, h1, h2, h3⟩; have A2 := Lib.hid (show RdAt w2 g s (l.drop 2) by rw [List.drop_drop] at h1; exact h1); have K2 := Lib.hid h2; have F2 := Lib.hid (F1.out.trans h3); clear h1 h2 h3 A1 K1 F1)
  rw [rounds_succ]
  go_wp2_with (go_at_call 45; refine (kf2_r g s K o tk (l.drop 2) a (((kl zk).set 0 (.int .i64 ((b0 l).toNat : Int))).set 4 (.int .i64 ((b0 (l.drop 1)).toNat : Int))) b _ A2.out HO.out rfl K2.out rfl Y2.out hg hs).mono ?_; rintro e w3 ⟨rfl, h1, h2, h3⟩; have A3 := Lib.hid (show RdAt w3 g s (l.drop 4) by rw [List.drop_drop] at h1; exact h1); have K3 := Lib.hid h2; have F3 := Lib.hid (F2.out.trans h3); clear h1 h2 h3 A2 K2 F2)
  rw [rounds_succ]
  go_wp2_with (go_at_call 47; refine (kf3_r g s K o tk (l.drop 4) a ((((kl zk).set 0 (.int .i64 ((b0 l).toNat : Int))).set 4 (.int .i64 ((b0 (l.drop 1)).toNat : Int))).set 1 (.int .i64 (numLE ((l.drop 2).take 2) : Int))) b _ A3.out HO.out rfl K3.out rfl Y3.out hg hs).mono ?_; rintro e w4 ⟨rfl, h1, h2, h3⟩; have A4 := Lib.hid (show RdAt w4 g s (l.drop 8) by rw [List.drop_drop] at h1; exact h1); have K4 := Lib.hid h2; have F4 := Lib.hid (F3.out.trans h3); clear h1 h2 h3 A3 K3 F3)
  rw [rounds_succ]
  go_wp2_with (go_at_call 49; refine (kf4_r g s K o tk (l.drop 8) a (((((kl zk).set 0 (.int .i64 ((b0 l).toNat : Int))).set 4 (.int .i64 ((b0 (l.drop 1)).toNat : Int))).set 1 (.int .i64 (numLE ((l.drop 2).take 2) : Int))).set 2 (.int .i64 (numLE ((l.drop 4).take 4) : Int))) b _ A4.out HO.out rfl K4.out rfl Y4.out hg hs).mono ?_; rintro e w5 ⟨rfl, h1, h2, h3⟩; have A5 := Lib.hid (show RdAt w5 g s (l.drop 12) by rw [List.drop_drop] at h1; exact h1); have K5 := Lib.hid h2; have F5 := Lib.hid (F4.out.trans h3); clear h1 h2 h3 A4 K4 F4)
  rw [rounds_succ]
  go_wp2_with (go_at_call 50; refine (kf5_no g s K o tk (l.drop 12) a ((((((kl zk).set 0 (.int .i64 ((b0 l).toNat : Int))).set 4 (.int .i64 ((b0 (l.drop 1)).toNat : Int))).set 1 (.int .i64 (numLE ((l.drop 2).take 2) : Int))).set 2 (.int .i64 (numLE ((l.drop 4).take 4) : Int))).set 3 (.int .i64 (numLE ((l.drop 8).take 4) : Int))) b _ A5.out HO.out rfl K5.out rfl Y5.out hg hs).mono ?_; rintro e w6 ⟨rfl, h1⟩; have F6 := Lib.hid (F5.out.trans (h1.mono (fun _ _ h => .inl h))))
  exact ⟨rfl, rfl, F6.out⟩
set_option maxRecDepth 8000 in
theorem passKey_no (g s K o : Nat) (tk : TypeId) (l : List UInt8) (a b : List Value) (w : World) (hW : RdAt w g s l) (ho : a.length = o) (hK : Blk w K tk (mid a (kl zk) b)) (hl : l.length < 20) (hg : K ≠ g) (hs : K ≠ s) :
    Calls Tryd.prog 14 #[rdi g, .pointer (some ⟨K, o, none⟩)] w fun e w' => e = .panicked (erc 151) ∧ Fr (fun j => j = g ∨ j = K) w w' := by
  by_cases h1 : l.length < 1
  · exact passKey_n0 g s K o tk l a b w hW ho hK ⟨by omega, h1⟩
  by_cases h2 : l.length < 2
  · exact passKey_n1 g s K o tk l a b w hW ho hK ⟨by omega, h2⟩ hg hs
  by_cases h3 : l.length < 4
  · exact passKey_n2 g s K o tk l a b w hW ho hK ⟨by omega, h3⟩ hg hs
  by_cases h4 : l.length < 8
  · exact passKey_n3 g s K o tk l a b w hW ho hK ⟨by omega, h4⟩ hg hs
  by_cases h5 : l.length < 12
  · exact passKey_n4 g s K o tk l a b w hW ho hK ⟨by omega, h5⟩ hg hs
  · exact passKey_n5 g s K o tk l a b w hW ho hK ⟨by omega, hl⟩ hg hs
end Go.Proofs.YtfclkkbmgclfgaaDoor

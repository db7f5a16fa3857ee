/- codec: passObject: by a writer. -/
import Derived.Test.YtfclkkbmgclfgaaDoorCX
namespace Go.Proofs.YtfclkkbmgclfgaaDoor
open Go.RowKit
set_option maxRecDepth 8000 in
set_option maxHeartbeats 1000000 in
theorem passObject_w (g B K : Nat) (t : TypeId) (n : Nat) (d : List UInt8) (u : Oj) (hx : u.fit) (w : World) (hW : WrAt w g B t n d) (hK : Blk w K obt u.cells.toArray) (hfit : d.length + 508 ≤ n) (hg : K ≠ g) (hB : K ≠ B) :
    Calls Tryd.prog 20 #[wri g, .pointer (some ⟨K, 0, none⟩)] w fun e w' => e = .returned (.tuple #[]) ∧ WrAt w' g B t n (d ++ obs u) ∧ Blk w' K obt u.cells.toArray ∧ Fr (fun j => j = g ∨ j = B ∨ j = K) w w' := by
  have i0 : ∀ w, (Instr.index 89 (.agg ofs) (.int .i64 0)).run Tryd.prog w = .ok (.func (.func 53) #[] #[]) w := fun _ => by kernel_rfl
  have i1 : ∀ w, (Instr.index 89 (.agg ofs) (.int .i64 1)).run Tryd.prog w = .ok (.func (.func 55) #[] #[]) w := fun _ => by kernel_rfl
  have i2 : ∀ w, (Instr.index 89 (.agg ofs) (.int .i64 2)).run Tryd.prog w = .ok (.func (.func 57) #[] #[]) w := fun _ => by kernel_rfl
  have i3 : ∀ w, (Instr.index 89 (.agg ofs) (.int .i64 3)).run Tryd.prog w = .ok (.func (.func 58) #[] #[]) w := fun _ => by kernel_rfl
  have i4 : ∀ w, (Instr.index 89 (.agg ofs) (.int .i64 4)).run Tryd.prog w = .ok (.func (.func 59) #[] #[]) w := fun _ => by kernel_rfl
  have i5 : ∀ w, (Instr.index 89 (.agg ofs) (.int .i64 5)).run Tryd.prog w = .ok (.func (.func 61) #[] #[]) w := fun _ => by kernel_rfl
  have i6 : ∀ w, (Instr.index 89 (.agg ofs) (.int .i64 6)).run Tryd.prog w = .ok (.func (.func 62) #[] #[]) w := fun _ => by kernel_rfl
  have X0 := Lib.hid (show u.cells.toArray[0]? = some (.int .i64 ((UInt8.ofNat u.k.toNat).toNat : Int)) from congrArg some (byte_of hx.k))
  have X2 := Lib.hid (show u.cells.toArray[1]? = some (.int .i64 (u.c.toNat : Int)) from congrArg some (nat_of hx.c.1))
  have X2b := Lib.hid (show u.c.toNat < 256 ^ 4 by have := hx.c; omega)
  have X3 := Lib.hid (show u.cells.toArray[2]? = some (.int .i64 (u.l.toNat : Int)) from congrArg some (nat_of hx.l.1))
  have X3b := Lib.hid (show u.l.toNat < 256 ^ 4 by have := hx.l; omega)
  have X4 := Lib.hid hx.s
  have HW := Lib.hid hW
  have HK := Lib.hid hK
  have Y0 := Lib.hid (show d.length + 1 ≤ n by omega)
  have Y1 := Lib.hid (show (d ++ [UInt8.ofNat u.k.toNat]).length + 3 ≤ n by simp only [List.length_append, List.length_cons, List.length_nil]; omega)
  have Y2 := Lib.hid (show ((d ++ [UInt8.ofNat u.k.toNat]) ++ List.replicate 3 0).length + 4 ≤ n by simp only [List.length_append, List.length_cons, List.length_nil, List.length_replicate]; omega)
  have Y3 := Lib.hid (show (((d ++ [UInt8.ofNat u.k.toNat]) ++ List.replicate 3 0) ++ bytesLE 4 u.c.toNat).length + 4 ≤ n by simp only [List.length_append, List.length_cons, List.length_nil, List.length_replicate, bytesLE_length]; omega)
  have Y4 := Lib.hid (show ((((d ++ [UInt8.ofNat u.k.toNat]) ++ List.replicate 3 0) ++ bytesLE 4 u.c.toNat) ++ bytesLE 4 u.l.toNat).length + 320 ≤ n by simp only [List.length_append, List.length_cons, List.length_nil, List.length_replicate, bytesLE_length]; omega)
  have Y5 := Lib.hid (show (((((d ++ [UInt8.ofNat u.k.toNat]) ++ List.replicate 3 0) ++ bytesLE 4 u.c.toNat) ++ bytesLE 4 u.l.toNat) ++ kks u.s).length + 64 ≤ n by simp only [List.length_append, List.length_cons, List.length_nil, List.length_replicate, bytesLE_length, kks_length, u.hs]; omega)
  have Y6 := Lib.hid (show ((((((d ++ [UInt8.ofNat u.k.toNat]) ++ List.replicate 3 0) ++ bytesLE 4 u.c.toNat) ++ bytesLE 4 u.l.toNat) ++ kks u.s) ++ u.b).length + 112 ≤ n by simp only [List.length_append, List.length_cons, List.length_nil, List.length_replicate, bytesLE_length, kks_length, u.hs, u.hb]; omega)
  clear hW hK hx hfit
  go_enter Tryd.func20, Tryd.ntmps20
  go_wp2_with (go_at_call 35; refine (objectFields_any _).mono ?_; rintro e w0 ⟨rfl, hb0⟩; have A0 := Lib.hid (HW.out.below hb0); have K0 := Lib.hid (HK.out.keep hb0); have F0 := Lib.hid (Fr.of_below (S := fun j => j = g ∨ j = B ∨ j = K) hb0); clear hb0)
  refine wp_loop_rounds 8 ?_
  rw [rounds_succ]
  go_wp2_with (go_at_call 53; refine (of1_w g B K t n d (UInt8.ofNat u.k.toNat) u.cells.toArray _ A0.out K0.out X0.out Y0.out hg hB).mono ?_; rintro e w1 ⟨rfl, h1, h2, h3⟩; have A1 := Lib.hid h1; have K1 := Lib.hid (show Blk _ K obt u.cells.toArray from h2); have F1 := Lib.hid (F0.out.trans h3); clear h1 h2 h3 A0 K0 F0)
  rw [rounds_succ]
  go_wp2_with (go_at_call 55; refine (of2_w g B K t n (d ++ [UInt8.ofNat u.k.toNat]) _ A1.out Y1.out).mono ?_; rintro e w2 ⟨rfl, h1, h2⟩; have A2 := Lib.hid h1; have K2 := Lib.hid (show Blk _ K obt u.cells.toArray from (h2.block K (Blk.lt K1.out) (by rintro (h | h); exact hg h; exact hB h)).trans K1.out); have F2 := Lib.hid (F1.out.trans (h2.mono (fun _ _ h => h.elim .inl (fun h => .inr (.inl h))))); clear h1 h2 A1 K1 F1)
  rw [rounds_succ]
  go_wp2_with (go_at_call 57; refine (of3_w g B K t n ((d ++ [UInt8.ofNat u.k.toNat]) ++ List.replicate 3 0) u.c.toNat u.cells.toArray _ A2.out K2.out X2.out X2b.out Y2.out hg hB).mono ?_; rintro e w3 ⟨rfl, h1, h2, h3⟩; have A3 := Lib.hid h1; have K3 := Lib.hid (show Blk _ K obt u.cells.toArray from h2); have F3 := Lib.hid (F2.out.trans h3); clear h1 h2 h3 A2 K2 F2)
  rw [rounds_succ]
  go_wp2_with (go_at_call 58; refine (of4_w g B K t n (((d ++ [UInt8.ofNat u.k.toNat]) ++ List.replicate 3 0) ++ bytesLE 4 u.c.toNat) u.l.toNat u.cells.toArray _ A3.out K3.out X3.out X3b.out Y3.out hg hB).mono ?_; rintro e w4 ⟨rfl, h1, h2, h3⟩; have A4 := Lib.hid h1; have K4 := Lib.hid (show Blk _ K obt u.cells.toArray from h2); have F4 := Lib.hid (F3.out.trans h3); clear h1 h2 h3 A3 K3 F3)
  rw [rounds_succ]
  go_wp2_with (go_at_call 59; refine (of5_w g B K t n ((((d ++ [UInt8.ofNat u.k.toNat]) ++ List.replicate 3 0) ++ bytesLE 4 u.c.toNat) ++ bytesLE 4 u.l.toNat) u.s u.hs X4.out [.int .i64 u.k, .int .i64 u.c, .int .i64 u.l] (bv u.b) rfl _ A4.out K4.out Y4.out hg hB).mono ?_; rintro e w5 ⟨rfl, h1, h2, h3⟩; have A5 := Lib.hid h1; have K5 := Lib.hid (show Blk _ K obt u.cells.toArray from h2); have F5 := Lib.hid (F4.out.trans h3); clear h1 h2 h3 A4 K4 F4)
  rw [rounds_succ]
  go_wp2_with (go_at_call 61; refine (of6_w g B K t n (((((d ++ [UInt8.ofNat u.k.toNat]) ++ List.replicate 3 0) ++ bytesLE 4 u.c.toNat) ++ bytesLE 4 u.l.toNat) ++ kks u.s) u.b u.hb _ A5.out (rd_bytes K5.out) Y5.out hg).mono ?_; rintro e w6 ⟨rfl, h1, h2⟩; have A6 := Lib.hid h1; have K6 := Lib.hid (show Blk _ K obt u.cells.toArray from (h2.block K (Blk.lt K5.out) (by rintro (h | h); exact hg h; exact hB h)).trans K5.out); have F6 := Lib.hid (F5.out.trans (h2.mono (fun _ _ h => h.elim .inl (fun h => .inr (.inl h))))); clear h1 h2 A5 K5 F5)
  rw [rounds_succ]
  go_wp2_with (go_at_call 62; refine (of7_w g B K t n ((((((d ++ [UInt8.ofNat u.k.toNat]) ++ List.replicate 3 0) ++ bytesLE 4 u.c.toNat) ++ bytesLE 4 u.l.toNat) ++ kks u.s) ++ u.b) _ A6.out Y6.out).mono ?_; rintro e w7 ⟨rfl, h1, h2⟩; have A7 := Lib.hid h1; have K7 := Lib.hid (show Blk _ K obt u.cells.toArray from (h2.block K (Blk.lt K6.out) (by rintro (h | h); exact hg h; exact hB h)).trans K6.out); have F7 := Lib.hid (F6.out.trans (h2.mono (fun _ _ h => h.elim .inl (fun h => .inr (.inl h))))); clear h1 h2 A6 K6 F6)
  rw [rounds_succ]
  go_wp2
  go_end0
  have h := A7.out
  rw [List.append_assoc, List.append_assoc, List.append_assoc, List.append_assoc, List.append_assoc, List.append_assoc] at h
  exact ⟨rfl, h, K7.out, F7.out⟩
end Go.Proofs.YtfclkkbmgclfgaaDoor

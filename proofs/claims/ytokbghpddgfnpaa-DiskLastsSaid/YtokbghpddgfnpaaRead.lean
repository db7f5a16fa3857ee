/- disk: the walks of Read, Write: what they tell, how the disk stands behind. -/
import Derived.Test.YtokbghpddgfnpaaNow
namespace Go.Proofs.Ytokbghpddgfnpaa
open Go.RowKit
attribute [local go_sem] run_store_bv run_store_wc run_store_bv_drew run_store_wc_drew
set_option maxRecDepth 100000 in
set_option maxHeartbeats 800000 in
theorem read1_at {w : World} {base p : Nat} {pl : Pl} {D : Dk} (h : DiskAt w base p pl D) (hN : D.waits.length ≤ 1000000) (k b0 b1 b2 : Nat)
    (c0 : Blk w b0 31 #[.pointer (some ⟨p, 0, none⟩)]) (c1 : Blk w b1 3 #[.int .i64 (k : Int)]) (c2 : Blk w b2 38 (bv zs).toArray) :
    Calls Try.prog 40 #[.pointer (some ⟨b0, 0, none⟩), .pointer (some ⟨b1, 0, none⟩), .pointer (some ⟨b2, 0, none⟩)] w fun e w' =>
      e = .returned (.tuple #[]) ∧ Blk w' b2 38 (bv (D.reads k)).toArray ∧ Fr (· = b2) w w' := by
  have h0 := (c0.cell 0).trans rfl
  have h1 := (c1.cell 0).trans rfl
  have HN := Lib.hid (now_at h hN k)
  have C2 := Lib.hid c2
  have hrl := readL_length k D.waits (D.lasts k) (h.lens k) (fun x hx => (h.wlens x hx).1)
  have RL := Lib.hid (show (D.reads k).length = 512 from hrl)
  clear h c0 c1 c2 hrl
  go_enter Try.func40, Try.ntmps40
  go_wp2_with fail
  refine HN.out.mono ?_
  rintro e w1 ⟨rfl, hb1⟩
  have hbl : (bv (D.reads k)).length = 512 := by rw [bv_length, RL.out]
  have hc2 := C2.out.below hb1 C2.out.lt
  have hst := run_store_all (P := Try.prog) (bv (D.reads k)) (bv zs) (by rw [bv_length, bv_length, RL.out, zs_length]) (bv_one _) hc2
  have J := Lib.hid (hc2.setRow (bv (D.reads k)).toArray)
  have FR := Lib.hid ((Fr.of_below (S := (· = b2)) hb1).grown (grown_setRow w1 b2 (bv (D.reads k)).toArray) (fun i e _ => by injection e with e; exact e.symm))
  clear hb1 hc2
  go_wp2
  go_end0
  exact ⟨rfl, J.out, FR.out⟩
set_option maxRecDepth 8000 in
theorem results_sec {fn : Func} {p q : Tmp} (h : fn.results = #[.cell p 38, .tmp q]) (tmps : Array Value) (w : World) (g : Nat) (l : List UInt8) (hl : l.length = 512)
    (hp : tmps.getD p undef = .pointer (some ⟨g, 0, none⟩)) (hg : Blk w g 38 (bv l).toArray) : (results fn tmps).run Try.prog w = .ok (.tuple #[sec l, tmps.getD q undef]) w := by
  have hp' : tmps[p]?.getD undef = .pointer (some ⟨g, 0, none⟩) := by simpa using hp
  have hl := run_loadVar_row (P := Try.prog) w g 38 38 (bv l).toArray (0, 0) _ hg Try.underlying38 rfl (by rw [List.size_toArray, bv_length, hl]; exact size47)
  simp [results, h, hp', asAddr, hl]
set_option maxRecDepth 8000 in
theorem blks (w : World) (v0 v1 : Value) (c2 c3 : Array Value) (t0 t1 t2 t3 : TypeId) :
    Blk ((((w.alloc (.cells #[v0] t0)).alloc (.cells #[v1] t1)).alloc (.cells c2 t2)).alloc (.cells c3 t3)) w.heap.size t0 #[v0] ∧
    Blk ((((w.alloc (.cells #[v0] t0)).alloc (.cells #[v1] t1)).alloc (.cells c2 t2)).alloc (.cells c3 t3)) (w.heap.size + 1) t1 #[v1] ∧
    Blk ((((w.alloc (.cells #[v0] t0)).alloc (.cells #[v1] t1)).alloc (.cells c2 t2)).alloc (.cells c3 t3)) (w.heap.size + 2) t2 c2 ∧
    Blk ((((w.alloc (.cells #[v0] t0)).alloc (.cells #[v1] t1)).alloc (.cells c2 t2)).alloc (.cells c3 t3)) (w.heap.size + 3) t3 c3 ∧
    Below w.heap.size w ((((w.alloc (.cells #[v0] t0)).alloc (.cells #[v1] t1)).alloc (.cells c2 t2)).alloc (.cells c3 t3)) ∧
    ((((w.alloc (.cells #[v0] t0)).alloc (.cells #[v1] t1)).alloc (.cells c2 t2)).alloc (.cells c3 t3)).heap.size = w.heap.size + 4 := by
  have e1 := Blk.new (w.alloc (.cells #[v0] t0)) t1 #[v1]
  have e2 := Blk.new ((w.alloc (.cells #[v0] t0)).alloc (.cells #[v1] t1)) t2 c2
  have e3 := Blk.new (((w.alloc (.cells #[v0] t0)).alloc (.cells #[v1] t1)).alloc (.cells c2 t2)) t3 c3
  simp only [World.size_alloc] at e1 e2 e3
  exact ⟨(((Blk.new w _ _).alloc _).alloc _).alloc _, (e1.alloc _).alloc _, e2.alloc _, e3, ((((Below.refl _ w).alloc (Nat.le_refl _) _).alloc (by simp) _).alloc (by simp; omega) _).alloc (by simp; omega) _, by simp⟩
set_option maxRecDepth 100000 in
set_option maxHeartbeats 800000 in
theorem read_no {w : World} (p : Option Addr) (n : Int) (no : Int) (hno : no ≠ 0) (ha : ∀ W, Below w.heap.size w W → Calls Try.prog 38 #[.pointer p, .int .i64 n] W fun e w' => e = .returned (.int .i64 no) ∧ W = w') :
    Calls Try.prog 13 #[.pointer p, .int .i64 n] w fun e w' => e = .returned (.tuple #[sec zs, .int .i64 no]) ∧ Below w.heap.size w w' := by
  have hz := z47
  have HA := Lib.hid ha
  have hne : (no != 0) = true := by simpa using hno
  have q := blks w (.pointer p) (.int .i64 n) (bv zs).toArray (bv zs).toArray 31 3 38 38
  have hbl : (bv zs).length = 512 := by rw [bv_length, zs_length]
  clear ha hno
  go_enter Try.func13, Try.ntmps13
  go_wp2_with fail
  obtain ⟨q0, q1, q2, q3, qb, qs⟩ := q
  generalize (((w.alloc (.cells #[.pointer p] 31)).alloc (.cells #[.int .i64 n] 3)).alloc (.cells (bv zs).toArray 38)).alloc (.cells (bv zs).toArray 38) = W at q0 q1 q2 q3 qb qs ⊢
  refine (HA.out W qb).mono ?_
  rintro e w' ⟨rfl, rfl⟩
  have Q3 := Lib.hid q3.rangeAt
  have hst := run_store_all (P := Try.prog) (bv zs) (bv zs) rfl (bv_one _) q2
  have Q2 := Lib.hid (q2.setRow (bv zs).toArray)
  have QB := Lib.hid (below_setRow qb (show w.heap.size ≤ w.heap.size + 2 by omega) (bv zs).toArray)
  clear q0 q1 q2 q3 qb qs
  go_wp2_with (refine wpList_load47 rfl (.tmp 6) rfl (w.heap.size + 3) 0 rfl zs Q3.out zs_length ?_)
  exact bodyPost_ret (results_sec rfl _ _ (w.heap.size + 2) zs zs_length rfl Q2.out) rfl ⟨rfl, QB.out⟩
theorem read_nil (w : World) (n : Int) : Calls Try.prog 13 #[.pointer none, .int .i64 n] w fun e w' => e = .returned (.tuple #[sec zs, .int .i64 1]) ∧ Below w.heap.size w w' :=
  read_no none n 1 (by decide) (fun W _ => asked_nil W n)
theorem read_out {w : World} {base p : Nat} {pl : Pl} {D : Dk} (h : DiskAt w base p pl D) (n : Int) (hn : n < 0 ∨ (D.size : Int) ≤ n) :
    Calls Try.prog 13 #[.pointer (some ⟨p, 0, none⟩), .int .i64 n] w fun e w' => e = .returned (.tuple #[sec zs, .int .i64 4]) ∧ Below w.heap.size w w' :=
  read_no _ n 4 (by decide) (fun _ hb => asked_no (h.below hb) n hn)
theorem Fr.keepBlk {S : Nat → Prop} {w w' : World} {g : Nat} {t : TypeId} {cs : Array Value} (h : Fr S w w') (hb : Blk w g t cs) (hn : ¬ S g) : Blk w' g t cs := (h.block g hb.lt hn).trans hb
theorem DiskAt.not_new {w : World} {base p : Nat} {pl : Pl} {D : Dk} (h : DiskAt w base p pl D) {k : Nat} (hk : w.heap.size ≤ k) : ¬ pl.has p k := fun hh => by have := (h.lt k hh).1; omega
theorem enters48 (args : Array Value) (w : World) : (callFunc 40 args).run Try.prog w = .ok (.enter 40 args) w := enters_of Try.func40 (by kernel_rfl) rfl args w
set_option maxRecDepth 100000 in
set_option maxHeartbeats 800000 in
theorem read_fails {w : World} {base p : Nat} {pl : Pl} {D : Dk} (h : DiskAt w base p pl D) (n : Nat) (hn : n < D.size) (hs : D.steps < 1000000) (hf : D.next = true) :
    Calls Try.prog 13 #[.pointer (some ⟨p, 0, none⟩), .int .i64 (n : Int)] w fun e w' => e = .returned (.tuple #[sec zs, .int .i64 120]) ∧ DiskAt w' base p pl D.stepped ∧ Fr (pl.has p) w w' := by
  have hz := z47
  have H := Lib.hid h
  have HF := Lib.hid hf
  have q := blks w (.pointer (some ⟨p, 0, none⟩)) (.int .i64 (n : Int)) (bv zs).toArray (bv zs).toArray 31 3 38 38
  have hbl : (bv zs).length = 512 := by rw [bv_length, zs_length]
  clear h hf
  go_enter Try.func13, Try.ntmps13
  go_wp2_with fail
  obtain ⟨q0, q1, q2, q3, qb, qs⟩ := q
  generalize (((w.alloc (.cells #[.pointer (some ⟨p, 0, none⟩)] 31)).alloc (.cells #[.int .i64 (n : Int)] 3)).alloc (.cells (bv zs).toArray 38)).alloc (.cells (bv zs).toArray 38) = W at q0 q1 q2 q3 qb qs ⊢
  have HW := Lib.hid (H.out.below qb)
  refine (asked_ok HW.out n hn).mono ?_
  rintro e w' ⟨rfl, rfl⟩
  have c0 := (q0.cell 0).trans rfl
  have Q2 := Lib.hid q2
  have Q3 := Lib.hid q3
  have QB := Lib.hid qb
  have QS := Lib.hid qs
  clear q0 q1 q2 q3 qb qs
  go_wp2_with fail
  refine (step_fails HW.out HF.out hs _).mono ?_
  rintro e w2 ⟨rfl, h2, f2⟩
  have nn := fun k (hk : w.heap.size ≤ k) => H.out.not_new hk
  have b2 := f2.keepBlk Q2.out (nn _ (by omega))
  have b3 := f2.keepBlk Q3.out (nn _ (by omega))
  have B3 := Lib.hid b3.rangeAt
  have hst := run_store_all (P := Try.prog) (bv zs) (bv zs) rfl (bv_one _) b2
  have J2 := Lib.hid (b2.setRow (bv zs).toArray)
  have JD : Hid (DiskAt (w2.setRow (w.heap.size + 2) (bv zs).toArray) base p pl D.stepped) := h2.keep (fun k hk => setRow_other _ _ _ _ (by rintro rfl; exact nn _ (by omega) hk))
  have JF := Lib.hid (((Fr.of_below (S := pl.has p) QB.out).trans f2).grown (grown_setRow w2 (w.heap.size + 2) (bv zs).toArray) (fun i e hi => by injection e with e; omega))
  clear h2 f2 b2 b3 nn
  go_wp2_with (refine wpList_load47 rfl (.tmp 6) rfl (w.heap.size + 3) 0 rfl zs B3.out zs_length ?_)
  exact bodyPost_ret (results_sec rfl _ _ (w.heap.size + 2) zs zs_length rfl J2.out) rfl ⟨rfl, JD.out, JF.out⟩
set_option maxRecDepth 100000 in
set_option maxHeartbeats 800000 in
theorem read_goes {w : World} {base p : Nat} {pl : Pl} {D : Dk} (h : DiskAt w base p pl D) (hN : D.waits.length ≤ 1000000) (n : Nat) (hn : n < D.size) (hs : D.steps < 1000000) (hf : D.next = false) :
    Calls Try.prog 13 #[.pointer (some ⟨p, 0, none⟩), .int .i64 (n : Int)] w fun e w' => e = .returned (.tuple #[sec (D.reads n), .int .i64 0]) ∧ DiskAt w' base p pl D.stepped ∧ Fr (pl.has p) w w' := by
  have hz := z47
  have H := Lib.hid h
  have HF := Lib.hid hf
  have q := blks w (.pointer (some ⟨p, 0, none⟩)) (.int .i64 (n : Int)) (bv zs).toArray (bv zs).toArray 31 3 38 38
  have hrl := readL_length n D.waits (D.lasts n) (h.lens n) (fun x hx => (h.wlens x hx).1)
  have RL := Lib.hid (show (D.reads n).length = 512 from hrl)
  have hbl : (bv (D.reads n)).length = 512 := by rw [bv_length, RL.out]
  have hbz : (bv zs).length = 512 := by rw [bv_length, zs_length]
  clear h hf hrl
  go_enter Try.func13, Try.ntmps13
  go_wp2_with fail
  obtain ⟨q0, q1, q2, q3, qb, qs⟩ := q
  generalize (((w.alloc (.cells #[.pointer (some ⟨p, 0, none⟩)] 31)).alloc (.cells #[.int .i64 (n : Int)] 3)).alloc (.cells (bv zs).toArray 38)).alloc (.cells (bv zs).toArray 38) = W at q0 q1 q2 q3 qb qs ⊢
  have HW := Lib.hid (H.out.below qb)
  refine (asked_ok HW.out n hn).mono ?_
  rintro e w' ⟨rfl, rfl⟩
  have c0 := (q0.cell 0).trans rfl
  have Q0 := Lib.hid q0
  have Q1 := Lib.hid q1
  have Q2 := Lib.hid q2
  have Q3 := Lib.hid q3
  have QB := Lib.hid qb
  have QS := Lib.hid qs
  clear q0 q1 q2 q3 qb qs
  go_wp2_with fail
  refine (step_goes HW.out HF.out hs _ _ (fun w' => DiskAt w' base p pl D.stepped ∧ Fr (fun k => pl.has p k ∨ k = w.heap.size + 3) W w' ∧ Blk w' (w.heap.size + 2) 38 (bv zs).toArray ∧ Blk w' (w.heap.size + 3) 38 (bv (D.reads n)).toArray) ?hdo (enters48 _)).mono ?_
  case hdo =>
    intro W1 h1 f1
    have nn := fun k (hk : w.heap.size ≤ k) => H.out.not_new hk
    refine (read1_at h1 hN n w.heap.size (w.heap.size + 1) (w.heap.size + 3) (f1.keepBlk Q0.out (nn _ (by omega))) (f1.keepBlk Q1.out (nn _ (by omega))) (f1.keepBlk Q3.out (nn _ (by omega)))).mono ?_
    rintro e w3 ⟨rfl, hb, hf3⟩
    refine ⟨rfl, h1.fr hf3 (fun k hk e => by subst e; exact nn _ (by omega) hk), (f1.mono (fun _ _ h => .inl h)).then_ hf3 (fun _ _ e => .inr e), ?_, hb⟩
    exact hf3.keepBlk (f1.keepBlk Q2.out (nn _ (by omega))) (by omega)
  rintro e w2 ⟨rfl, h2, f2, b2, b3⟩
  have B3 := Lib.hid b3.rangeAt
  have nn := fun k (hk : w.heap.size ≤ k) => H.out.not_new hk
  have hst := run_store_all (P := Try.prog) (bv (D.reads n)) (bv zs) (by rw [bv_length, bv_length, RL.out, zs_length]) (bv_one _) b2
  have J2 := Lib.hid (b2.setRow (bv (D.reads n)).toArray)
  have JD : Hid (DiskAt (w2.setRow (w.heap.size + 2) (bv (D.reads n)).toArray) base p pl D.stepped) := h2.keep (fun k hk => setRow_other _ _ _ _ (by rintro rfl; exact nn _ (by omega) hk))
  have JF := Lib.hid (((Fr.of_below (S := pl.has p) QB.out).then_ f2 (fun i hi h => h.elim id (fun e => by omega))).grown (grown_setRow w2 (w.heap.size + 2) (bv (D.reads n)).toArray) (fun i e hi => by injection e with e; omega))
  clear h2 f2 b2 b3 nn
  go_wp2_with (refine wpList_load47 rfl (.tmp 6) rfl (w.heap.size + 3) 0 rfl (D.reads n) B3.out RL.out ?_)
  exact bodyPost_ret (results_sec rfl _ _ (w.heap.size + 2) (D.reads n) RL.out rfl J2.out) rfl ⟨rfl, JD.out, JF.out⟩
end Go.Proofs.Ytokbghpddgfnpaa

/- the document's answer for layer 2: Bytes. -/
import Derived.Test.YtgjamgojjajcnaaQ16
import Derived.Test.YtgjamgojjajcnaaQ11
import Derived.Test.YtgjamgojjajcnaaQ15
import Derived.Test.YtgjamgojjajcnaaQ03
namespace Go.Proofs.Ytgjamgojjajcnaa
open Go.RowKit
attribute [local go_sem] Oper.semAt_some
set_option maxRecDepth 8000 in
theorem size94 : (Try.prog.info? 94).map (·.size) = some 513 := by kernel_rfl
theorem wpList_load94 {w : World} {ops : Array Oper} {rest : List Oper} {o : Oper} {a : Act} {Q : Exit → Act → World → Prop} (hgd : o.guard = none) (x : Operand) (ho : o.op = .load 94 x) (b off : Nat) (hx : a.eval x = .pointer (some ⟨b, off, none⟩)) (l : Nat × List UInt8) (h : w.rangeAt b off (wc l)) (hl : l.2.length = 512)
    (hK : wpList Try.prog ops Q rest (a.put o.dst (wv l)) w) : wpList Try.prog ops Q (o :: rest) a w :=
  wpList_load_mid hgd 94 x ho b off hx (wc l) _ h Try.underlying94 rfl (by rw [wc_length _ hl]; exact size94) hK
/-- what is read, laid one behind the other -/
def layR (lb : List UInt8) (ws : List (Nat × List UInt8)) : List UInt8 := ws.foldl (fun l x => laidF l x 512) lb
set_option maxRecDepth 8000 in
theorem layR_snoc (lb : List UInt8) (ws : List (Nat × List UInt8)) (x : Nat × List UInt8) : layR lb (ws ++ [x]) = laidF (layR lb ws) x 512 := by simp [layR]
theorem layR_length {z : Nat} : ∀ (ws : List (Nat × List UInt8)) (lb : List UInt8), lb.length = z * 512 → (∀ x ∈ ws, x.2.length = 512 ∧ x.1 < z) → (layR lb ws).length = z * 512
  | [], _, hl, _ => hl
  | x :: ws, lb, hl, hw => layR_length ws (laidF lb x 512) (by
      have h := hw x (by simp)
      rw [laidF_length lb x 512 (by have := h.2; omega) h.1 (by omega), hl]) (fun y hy => hw y (by simp [hy]))
section
variable {w w' : World} {r : Rp} {R : Rf} {z : Nat}
set_option maxRecDepth 100000 in
set_option maxHeartbeats 3200000 in
theorem rbytes_any (h : RefAt w r R z) (s : Nat) : Calls Try.prog 44 #[r.val s] w fun e w' => ∃ v, e = .returned v ∧ w'.ownsRow w.heap.size 5 1 v (z * 512) (bv (layR R.lb R.ws)) ∧ Below w.heap.size w w' := by
  have H := Lib.hid h
  have HN2 := Lib.hid h.n2
  have hm := h.m2
  obtain ⟨DC, hDC⟩ : ∃ DC, DC = r.cells s := ⟨_, rfl⟩
  have k0 : DC[0]? = some (.slice r.A1 (z * 512) r.c1) := by rw [hDC, ← h.n1]; rfl
  have k1 : DC[1]? = some (.slice r.A2 r.n2 r.c2) := by rw [hDC]; rfl
  have P0 := Lib.hid (Blk.new w 34 DC)
  have BL := Lib.hid ((Below.refl w.heap.size w).alloc (Nat.le_refl _) (.cells DC 34))
  have H1 := Lib.hid (h.alloc (.cells DC 34))
  obtain ⟨N, hN⟩ : ∃ N, N = z * 512 := ⟨_, rfl⟩
  have HNE := Lib.hid hN
  rw [← hN] at k0 ⊢
  have NB := Lib.hid (show 0 < N ∧ N ≤ 3000000 by have := h.z1; have := h.z2; omega)
  have b0 := (P0.out.cell 0).trans k0
  clear h hN
  rw [show r.val s = .agg DC by rw [hDC]]
  clear hDC
  go_enter Try.func44, Try.ntmps44
  go_wp2
  generalize w.alloc (.cells DC 34) = W at P0 BL H1 b0 ⊢
  clear b0
  go_loopw [3, 4] (fun v i wr => ∃ (k : Nat) (A : Option Addr) (c : Nat), k ≤ R.ws.length ∧ i = .int .i64 (k : Int) ∧ v = .slice A N c ∧ Rd wr A (layR R.lb (R.ws.take k)) ∧ Blk wr w.heap.size 34 DC ∧ Below w.heap.size w wr) (fun _ i _ => R.ws.length - (intOf i).toNat)
  case atStart => exact ⟨0, r.A1, r.c1, Nat.zero_le _, rfl, rfl, H1.out.r1, P0.out, BL.out⟩
  case round =>
    obtain ⟨k, A, c, hk, rfl, rfl, ho, h0, hb⟩ := hrel
    clear P0 BL H1
    have QO := Lib.hid ho
    have Q0 := Lib.hid h0
    have QB := Lib.hid hb
    have b1 := (h0.cell 1).trans k1
    have HLL := Lib.hid (show (layR R.lb (R.ws.take k)).length = N by rw [HNE.out]; exact layR_length _ _ H.out.l1 (fun y hy => H.out.wl y (List.mem_of_mem_take hy)))
    clear ho h0 hb
    by_cases hlt : k < R.ws.length
    · obtain ⟨x, hx⟩ : ∃ x, R.ws[k]? = some x := ⟨_, List.getElem?_eq_getElem hlt⟩
      obtain ⟨b, off, hA, hc⟩ := (H.out.r2.below QB.out) k x hx
      rw [hA] at b1
      have HX := Lib.hid (show R.ws.take (k + 1) = R.ws.take k ++ [x] by rw [List.take_add_one, hx]; rfl)
      have HW := Lib.hid (H.out.wl x (List.mem_of_getElem? hx))
      have HC := Lib.hid hc
      have i1 : (0 : Int) ≤ (k : Int) := by omega
      have i2 : (k : Int) < (r.n2 : Int) := by have := HN2.out; omega
      have kb : k ≤ 100000 := by omega
      have LA := Lib.hid (fun (W : World) (hr : Rd W A (layR R.lb (R.ws.take k))) => show Calls Try.prog 59 #[.slice A N c, wv x, .int .i64 512] W fun e w' => ∃ v, e = .returned v ∧ w'.ownsRow W.heap.size 5 1 v N (bv (laidF (layR R.lb (R.ws.take k)) x 512)) ∧ Below W.heap.size W w' from by
        have := laid_any W A c (layR R.lb (R.ws.take k)) x 512 hr (by rw [HLL.out]; exact NB.out.1) (by rw [HLL.out]; exact NB.out.2) HW.out.1 (by omega) (.inr (by rw [HLL.out, HNE.out]; have := HW.out.2; omega))
        rw [HLL.out] at this
        exact this)
      clear hx hc
      go_wp2_with (first
        | (refine wpList_load94 rfl (.tmp 18) rfl b (off + k * 513) rfl x HC.out HW.out.1 ?_)
        | (go_at_call 59; refine (LA.out _ QO.out).mono ?_; rintro e w5 ⟨v, rfl, hown, hb5⟩; obtain ⟨A', c', rfl⟩ := own_shape hown; have J := Lib.hid (Rd.of_own hown); have JB := Lib.hid hb5; clear hown hb5))
      go_roundw
      case rel => exact ⟨k + 1, A', c', by omega, by go_num, rfl, by rw [HX.out, layR_snoc]; exact J.out, Q0.out.below JB.out Q0.out.lt, QB.out.trans (JB.out.mono QB.out.size)⟩
      case measure => simp [intOf]; omega
    · obtain rfl : k = R.ws.length := by omega
      have i2 : ¬ ((R.ws.length : Nat) : Int) < (r.n2 : Int) := by have := HN2.out; omega
      rw [List.take_length] at QO HLL
      have QO2 := Lib.hid (QO.out.alloc (.cells #[] 5))
      go_wp2_with (at_builtin; refine wpList_append_bytes _ rfl (.tmp 21) (.tmp 22) _ rfl Try.underlying22 infoU8 rfl (lit0 wr) rfl QO2.out HLL.out (by have := NB.out; omega) (by simp) ?_; intro v1 w1 hown1 hg1 hat1; simp only [Nat.zero_add, List.nil_append] at hown1; have HO1 := Lib.hid hown1; have HB1 := Lib.hid (below_append (below_lit0 wr) (lit0 wr) hg1 (Nat.le_refl _) (by simp)); clear hown1 hg1 hat1)
      go_ret
      exact ⟨_, rfl, own_base HO1.out QB.out.size, QB.out.trans (HB1.out.mono QB.out.size)⟩
end
end Go.Proofs.Ytgjamgojjajcnaa
namespace Go.Proofs.Ytgjamgojjajcnaa
open Go.RowKit
/-- a disk and the document's stand alike -/
structure Alike (D : Dk) (R : Rf) (s z : Nat) : Prop where
  size : D.size = z
  lasts : ∀ n, n < z → D.lasts n = chunk R.lb n
  waits : D.waits = R.ws
  steps : D.steps = s
  fails : ∀ n : Int, (s : Int) ≤ n → n ≤ 9223372036854775807 → D.fails (n - (D.frm : Int)) = decide (n ∈ R.fl)
set_option maxRecDepth 8000 in
theorem Alike.next {D : Dk} {R : Rf} {s z : Nat} (h : Alike D R s z) (hs : s ≤ 1000000) : D.next = decide ((s : Int) ∈ R.fl) := by
  unfold Dk.next
  rw [h.steps]
  exact h.fails s (Int.le_refl _) (by omega)
theorem secs_congr {L L' : Nat → List UInt8} : ∀ z, (∀ n, n < z → L n = L' n) → secs L z = secs L' z
  | 0, _ => rfl
  | z + 1, h => by rw [secs_succ, secs_succ, secs_congr z (fun n hn => h n (by omega)), h z (by omega)]
set_option maxRecDepth 8000 in
theorem secs_chunk (lb : List UInt8) (z : Nat) (hl : lb.length = z * 512) : secs (chunk lb) z = lb := by
  rw [secs_congr (L := chunk lb) (L' := ofL lb z) z (fun n hn => by unfold ofL; rw [if_pos hn])]
  exact diskMakes.secs_of lb z hl
set_option maxRecDepth 8000 in
theorem laidF_get (lb : List UInt8) (n : Nat) (l : List UInt8) (hl : l.length = 512) (hn : 512 * n + 512 ≤ lb.length) (i : Nat) : (laidF lb (n, l) 512)[i]? = if i / 512 = n then l[i % 512]? else lb[i]? := by
  unfold laidF splice
  have ht : (List.take (512 * n) lb).length = 512 * n := by rw [List.length_take]; omega
  have hl2 : (List.take 512 l) = l := List.take_of_length_le (by omega)
  simp only [hl2]
  by_cases h : i / 512 = n
  · rw [if_pos h, List.getElem?_append_right (by omega), ht, List.getElem?_append_left (by omega)]
    congr 1
    omega
  · rw [if_neg h]
    by_cases h1 : i < 512 * n
    · rw [List.getElem?_append_left (by omega), List.getElem?_take, if_pos h1]
    · rw [List.getElem?_append_right (by omega), ht, List.getElem?_append_right (by omega), List.getElem?_drop, hl]
      congr 1
      omega
set_option maxRecDepth 8000 in
theorem secs_up (L : Nat → List UInt8) (z n : Nat) (l : List UInt8) (hL : ∀ n, (L n).length = 512) (hl : l.length = 512) (hn : n < z) : secs (upL L n (layL (L n) l 512)) z = laidF (secs L z) (n, l) 512 := by
  have hlay : layL (L n) l 512 = l := by
    unfold layL
    rw [List.take_of_length_le (by omega), List.drop_of_length_le (by rw [hL]; omega), List.append_nil]
  have hL' : ∀ k, (upL L n (layL (L n) l 512) k).length = 512 := fun k => by
    unfold upL
    split
    · rw [hlay, hl]
    · exact hL k
  have hsl : (secs L z).length = z * 512 := secs_length L hL z
  apply List.ext_getElem?
  intro i
  rw [laidF_get _ n l hl (by rw [hsl]; omega)]
  by_cases hi : i < z * 512
  · rw [secs_get _ hL' z i hi]
    unfold upL
    by_cases h : i / 512 = n
    · rw [if_pos h, if_pos h, hlay]
    · rw [if_neg h, if_neg h, secs_get L hL z i hi]
  · have h : i / 512 ≠ n := by omega
    rw [if_neg h, List.getElem?_eq_none (by rw [secs_length _ hL']; omega), List.getElem?_eq_none (by rw [hsl]; omega)]
theorem layC_all (z : Nat) : ∀ (es : List (Nat × (Nat × List UInt8))) (L : Nat → List UInt8), (∀ n, (L n).length = 512) → (∀ e ∈ es, e.2.2.length = 512 ∧ e.2.1 < z) →
    secs (layC (fun _ => 512) L es) z = layR (secs L z) (es.map (·.2))
  | [], _, _, _ => rfl
  | e :: es, L, hL, he => by
    have h := he e (by simp)
    have hL' : ∀ k, (upL L e.2.1 (layL (L e.2.1) e.2.2 512) k).length = 512 := fun k => by
      unfold upL
      split
      · exact layL_length _ _ _ (hL _) h.1 (Nat.le_refl _)
      · exact hL k
    show secs (layC (fun _ => 512) (upL L e.2.1 (layL (L e.2.1) e.2.2 512)) es) z = layR (laidF (secs L z) e.2 512) (es.map (·.2))
    rw [layC_all z es _ hL' (fun e' h' => he e' (by simp [h'])), secs_up L z e.2.1 e.2.2 hL h.1 h.2]
set_option maxRecDepth 8000 in
theorem nums_snd (D : Dk) : D.nums.map (·.2) = D.waits := by
  unfold Dk.nums
  apply List.ext_getElem?
  intro i
  rw [List.getElem?_map, List.getElem?_mapIdx]
  cases D.waits[i]? <;> rfl
set_option maxRecDepth 8000 in
/-- what is read of all is the same by both -/
theorem Alike.all {w : World} {base p : Nat} {pl : Pl} {D : Dk} {R : Rf} {s z : Nat} (h : Alike D R s z) (hd : DiskAt w base p pl D) (hl : R.lb.length = z * 512) : D.all = layR R.lb R.ws := by
  show secs (layC (fun _ => 512) D.lasts D.nums) D.size = _
  rw [layC_all D.size D.nums D.lasts hd.lens (fun e he => hd.wlens _ (nums_mem he).2), nums_snd, h.waits, h.size, secs_congr z h.lasts, secs_chunk _ _ hl]
end Go.Proofs.Ytgjamgojjajcnaa
namespace Go.Proofs.Ytgjamgojjajcnaa
open Go.RowKit
set_option maxRecDepth 8000 in
theorem zero94 : (Try.prog.info? 94).map (fun i => (i.zero, i.size)) = some (some (wv (0, zs)), 513) := by kernel_rfl
theorem z94 (w : World) : (zeroValue 94).run Try.prog w = .ok (wv (0, zs)) w := (zero_of_info zero94).1 w
set_option maxRecDepth 8000 in
theorem info94 : (Try.prog.info? 94).map (fun i => (i.zero, i.size, i.bytes)) = some (some (wv (0, zs)), 513, 520) := by kernel_rfl
theorem fields94 : Try.prog.fieldsOf 94 = #[(Try.prog.fieldsOf 94)[0]!, (Try.prog.fieldsOf 94)[1]!] ∧ ((Try.prog.fieldsOf 94)[0]!).offset = 0 ∧ ((Try.prog.fieldsOf 94)[0]!).type = 3 ∧ ((Try.prog.fieldsOf 94)[1]!).offset = 1 ∧ ((Try.prog.fieldsOf 94)[1]!).type = 38 := ⟨by kernel_rfl, by kernel_rfl, by kernel_rfl, by kernel_rfl, by kernel_rfl⟩
set_option maxRecDepth 8000 in
theorem und94 : Try.prog.underlying 94 = some (.struct (Try.prog.fieldsOf 94)) := by kernel_rfl
set_option maxRecDepth 8000 in
theorem run_build94 (w : World) (n : Nat) (l : List UInt8) (hl : l.length = 512) : (Instr.build 94 #[(0, .int .i64 (n : Int)), (1, sec l)]).run Try.prog w = .ok (wv (n, l)) w := by
  obtain ⟨hf, o0, t0, o1, t1⟩ := fields94
  have hm : ((Try.prog.fieldsOf 94).mapM fun f => (do pure (f.offset, ← sizeOf f.type) : Sem (Nat × Nat))).run Try.prog w = .ok #[(0, 1), (1, 512)] w := by
    rw [hf]
    simp [Array.mapM_eq_mapM_toList, o0, t0, o1, t1, run_sizeOf size3, run_sizeOf size47, Result.andThen]
  have hz : ((zeroValue 94).run Try.prog w) = .ok (wv (0, zs)) w := z94 w
  have c1 : Instr.fill ((#[(0, 1), (1, 512)] : Array (Nat × Nat))[·]?) (wc (0, zs)).toArray [(0, .int .i64 (n : Int)), (1, sec l)] = some (wc (n, l)).toArray := by
    have hzl := wc_length (0, zs) zs_length
    rw [fill_one _ _ 0 _ _ 0 rfl (by simp [Value.cells]; omega), fill_one _ _ 1 (sec l) _ 1 (by simp [Value.cells, bv_length, hl]) (by simp [Value.cells, bv_length, hl]; omega)]
    have e : ∀ v : Value, (v :: bv zs).take 1 ++ bv l ++ (v :: bv zs).drop (1 + 512) = v :: bv l := fun v => by
      rw [List.drop_eq_nil_of_le (by rw [List.length_cons, bv_length, zs_length]; omega), List.append_nil]
      rfl
    have e2 : (sec l).cells.size = 512 := by show (bv l).toArray.size = 512; rw [List.size_toArray, bv_length, hl]
    simp only [Instr.fill, e2]
    exact congrArg (fun x : List Value => some x.toArray) (e (.int .i64 (n : Int)))
  simp only [Instr.build, Sem.run_bind, hz, Result.andThen_ok, run_underlying und94, hm]
  rw [show (wv (0, zs)).cells = (wc (0, zs)).toArray from rfl, c1]
  rfl
set_option maxRecDepth 8000 in
theorem run_buildSlice94 (w : World) (x : Nat × List UInt8) (hx : x.2.length = 512) :
    (Instr.buildSlice 32 1 #[(0, wv x)]).run Try.prog w = .ok (.slice (some ⟨w.heap.size, 0, none⟩) 1 1) (w.alloc (.cells (wc x).toArray 94)) := by
  have hz : ((zeroValue 94).run Try.prog w) = .ok (wv (0, zs)) w := z94 w
  have hs := run_sizeOf (P := Try.prog) size94 w
  have c1 : ∀ cs : Array Value, cs.size = 513 → Instr.fill (fun i => some (i * 513, 513)) cs [(0, wv x)] = some (wc x).toArray := by
    intro cs hcs
    have e2 : (wv x).cells.size = 513 := by show (wc x).toArray.size = 513; rw [List.size_toArray, wc_length x hx]
    rw [fill_one _ _ 0 (wv x) _ 0 (by rw [e2]) (by rw [e2, hcs]; omega)]
    simp only [Instr.fill, e2]
    have e : cs.toList.take 0 ++ wc x ++ cs.toList.drop (0 + 513) = wc x := by
      rw [List.drop_eq_nil_of_le (by rw [Array.length_toList, hcs]; omega), List.append_nil]
      rfl
    exact congrArg (fun x : List Value => some x.toArray) e
  have h2 := c1 ((Array.range (1 * 513)).map ((wv (0, zs)).cells[· % (wv (0, zs)).cells.size]!)) (by simp)
  simp only [Instr.buildSlice, Sem.run_bind, run_underlying Try.underlying32, Result.andThen_ok, hs]
  rw [if_neg (by decide), if_neg (by decide)]
  simp only [Sem.run_bind, hz, Result.andThen_ok, Sem.run_pure, h2]
  simp [newRow, Result.andThen]
theorem yieldsIf_build94 {ops : Array Oper} {S : World → Prop} {o : Oper} {a : Act} (hw : Region.wanted o (yielded ops a.tmps) = true) (x y : Operand) (ho : o.op = .build 94 #[(0, x), (1, y)]) (n : Nat) (l : List UInt8) (hx : a.eval x = .int .i64 (n : Int)) (hy : a.eval y = sec l) (hl : l.length = 512) :
    YieldsIf Try.prog ops S o (wv (n, l)) a := .inl ⟨hw, fun w _ => by
  simp [execOp, ho, hx, hy, run_build94 w n l hl, Result.andThen]⟩
set_option maxRecDepth 8000 in
theorem step_buildSlice94 {ops : Array Oper} {o : Oper} {a : Act} {w : World} {K : Act → World → Prop} {Q : Exit → Act → World → Prop} {E : Prop} (hgd : o.guard = none) (x : Operand) (ho : o.op = .buildSlice 32 1 #[(0, x)]) (e : Nat × List UInt8) (hx : a.eval x = wv e) (he : e.2.length = 512)
    (h : K (a.put o.dst (.slice (some ⟨w.heap.size, 0, none⟩) 1 1)) (w.alloc (.cells (wc e).toArray 94))) :
    if Region.wanted o (yielded ops a.tmps) = true then Oper.wp Try.prog o a w K Q else E := by
  have hw : Region.wanted o (yielded ops a.tmps) = true := by simp [Region.wanted, hgd]
  rw [if_pos hw]
  unfold Oper.wp
  simp [execOp, ho, hx, run_buildSlice94 w e he, Result.andThen]
  exact h
set_option maxRecDepth 8000 in
theorem rangeAt_append {w : World} {b off : Nat} {l k : List Value} (h : w.rangeAt b off l) (h2 : w.rangeAt b (off + l.length) k) : w.rangeAt b off (l ++ k) := by
  intro j v hv
  rcases Nat.lt_or_ge j l.length with hj | hj
  · rw [List.getElem?_append_left hj] at hv
    exact h j v hv
  · rw [List.getElem?_append_right hj] at hv
    have := h2 (j - l.length) v hv
    rwa [show off + l.length + (j - l.length) = off + j by omega] at this
theorem rangeAt_flat {w : World} {b : Nat} : ∀ (ws : List (Nat × List UInt8)) (off : Nat), (∀ x ∈ ws, x.2.length = 512) → (∀ i x, ws[i]? = some x → w.rangeAt b (off + i * 513) (wc x)) → w.rangeAt b off (ws.flatMap wc)
  | [], _, _, _ => by intro j v hv; simp at hv
  | x :: ws, off, hl, h => by
    rw [List.flatMap_cons]
    have hx := wc_length x (hl x (List.mem_cons_self ..))
    refine rangeAt_append (by simpa using h 0 x rfl) ?_
    rw [hx]
    refine rangeAt_flat ws (off + 513) (fun y hy => hl y (List.mem_cons_of_mem _ hy)) fun i y hy => ?_
    have := h (i + 1) y (by simpa using hy)
    rwa [show off + (i + 1) * 513 = off + 513 + i * 513 by omega] at this
set_option maxRecDepth 8000 in
theorem add_flat94 (b off j : Nat) : ((⟨b, off, none⟩ : Addr).add j) = ⟨b, off + j, none⟩ := by
  unfold Addr.add
  split
  · subst_vars; rfl
  · rfl
set_option maxRecDepth 8000 in
theorem flat_len94 (ws : List (Nat × List UInt8)) (hw : ∀ x ∈ ws, x.2.length = 512) : (ws.flatMap wc).length = ws.length * 513 := by
  induction ws with
  | nil => rfl
  | cons x ws ih =>
    rw [List.flatMap_cons, List.length_append, wc_length x (hw x (List.mem_cons_self ..)), ih fun y hy => hw y (List.mem_cons_of_mem _ hy), List.length_cons]
    omega
set_option maxRecDepth 8000 in
theorem flat_one94 (ws : List (Nat × List UInt8)) : ∀ u ∈ ws.flatMap wc, u.oneCell' = true := by
  intro u hu
  obtain ⟨x, _, hx⟩ := List.mem_flatMap.1 hu
  exact wc_one x u hx
set_option maxRecDepth 8000 in
theorem addr_inj {b o b' o' : Nat} (h : (some ⟨b, o, none⟩ : Option Addr) = some ⟨b', o', none⟩) : b = b' ∧ o = o' := by
  have h := Option.some.inj h
  injection h with h1 h2
  exact ⟨h1, h2⟩
set_option maxRecDepth 8000 in
set_option maxHeartbeats 1600000 in
/-- append of writes that lie there, of none too -/
theorem run_append94s (w : World) (ty : TypeId) {base n : Nat} {v : Value} {xs : List Value} (hown : w.ownsRow base 94 513 v n xs) {A : Option Addr} {m c : Nat} {ws : List (Nat × List UInt8)} (hr : RdW w A ws) (hm : ws.length = m) (hws : ∀ x ∈ ws, x.2.length = 512)
    (hbig : n + m ≤ 1000000) (hbase : base ≤ w.heap.size) :
    ∃ v' w', (Builtin.append_ #[32, 32] ty #[v, .slice A m c]).run Try.prog w = .ok v' w' ∧ w'.ownsRow base 94 513 v' (n + m) (xs ++ ws.flatMap wc) ∧ w.grownBy w' v.ownBlock ∧
      (v'.ownBlock = v.ownBlock ∨ v'.ownBlock = some w.heap.size) := by
  obtain ⟨i, hi, hz, hs, hb⟩ := info_parts info94
  cases A with
  | none =>
    have hk : ws = [] := by
      cases ws with
      | nil => rfl
      | cons x k =>
        obtain ⟨b, off, h, _⟩ := hr 0 x rfl
        cases h
    subst hk
    simp only [List.length_nil] at hm
    subst hm
    refine ⟨v, w, ?_, by simpa using hown, World.grownBy.refl w _, .inl rfl⟩
    rcases hown.2 with ⟨rfl, rfl⟩ | ⟨g, cap, cur, rfl, _, _, hnc, _⟩
    · simp [Builtin.append_, run_underlying Try.underlying32, sizeOf, typeInfo, hi, Builtin.lenOf, Builtin.firstCells]
    · simp [Builtin.append_, run_underlying Try.underlying32, sizeOf, typeInfo, hi, Builtin.lenOf, Builtin.firstCells, hnc, storeCells]
  | some ad =>
    have hnews : ∀ j u, (ws.flatMap wc)[j]? = some u → w.cell? (ad.add j) = some u := by
      cases ws with
      | nil => intro j u hu; simp at hu
      | cons x k =>
        obtain ⟨b, off, h, _⟩ := hr 0 x rfl
        injection h with h
        subst h
        intro j u hu
        rw [add_flat94]
        refine rangeAt_flat (x :: k) off hws (fun i y hy => ?_) j u hu
        obtain ⟨b', off', h', hc⟩ := hr i y hy
        obtain ⟨h1, h2⟩ := addr_inj h'
        rw [h1, h2]
        exact hc
    obtain ⟨v', w', hrun, h2, h3, _, h5⟩ := run_append_own_at (P := Try.prog) w base 32 ty 94 i (wv (0, zs)) 513 520 Try.underlying32 hi hz hs hb (by show (wc (0, zs)).toArray.size = 513; rw [List.size_toArray, wc_length _ zs_length]) (by omega) v n xs hown ad m c (ws.flatMap wc) (by rw [flat_len94 ws hws, hm]) hnews (flat_one94 ws) (by simp only [maxLen]; omega) (by omega) hbase
    exact ⟨v', w', hrun, h2, h3, h5⟩
set_option maxRecDepth 8000 in
theorem step_append94s {ops : Array Oper} {o : Oper} {a : Act} {w : World} {K : Act → World → Prop} {Q : Exit → Act → World → Prop} {E : Prop} (hgd : o.guard = none) (s x : Operand)
    (ho : o.op = .call { callee := .builtin .append, args := #[s, x], argTypes := #[32, 32] }) {base n : Nat} {v : Value} {xs : List Value} (hs : a.eval s = v) (hown : w.ownsRow base 94 513 v n xs)
    {A : Option Addr} {m c : Nat} {ws : List (Nat × List UInt8)} (hx : a.eval x = .slice A m c) (hr : RdW w A ws) (hm : ws.length = m) (hws : ∀ x ∈ ws, x.2.length = 512) (hbig : n + m ≤ 1000000) (hbase : base ≤ w.heap.size)
    (h : ∀ v' w', w'.ownsRow base 94 513 v' (n + m) (xs ++ ws.flatMap wc) → w.grownBy w' v.ownBlock → (v'.ownBlock = v.ownBlock ∨ v'.ownBlock = some w.heap.size) → K (a.put o.dst v') w') :
    if Region.wanted o (yielded ops a.tmps) = true then Oper.wp Try.prog o a w K Q else E := by
  have hw : Region.wanted o (yielded ops a.tmps) = true := by simp [Region.wanted, hgd]
  rw [if_pos hw]
  obtain ⟨v', w', hrun, h2, h3, h4⟩ := run_append94s w o.type hown hr hm (c := c) hws hbig hbase
  unfold Oper.wp execOp
  simp only [ho, resolve, invoke, builtin, Sem.run_bind, Sem.run_pure, Result.andThen_ok, List.map_toArray, List.map_cons, List.map_nil, hs, hx, hrun]
  exact h v' w' h2 h3 h4
set_option maxRecDepth 8000 in
/-- what was appended lies there -/
theorem rdW_own {w : World} {base n c : Nat} {A : Option Addr} {ws : List (Nat × List UInt8)} (hws : ∀ x ∈ ws, x.2.length = 512) (h : w.ownsRow base 94 513 (.slice A n c) n (ws.flatMap wc)) : RdW w A ws := by
  intro i x hx
  have hi : i < ws.length := by
    rcases Nat.lt_or_ge i ws.length with h | h
    · exact h
    · rw [List.getElem?_eq_none h] at hx; cases hx
  rcases h.2 with ⟨e, e2⟩ | ⟨g, cap, cur, e, _⟩
  · injection e with e1 e2 e3
    have := h.1
    rw [flat_len94 ws hws] at this
    omega
  · injection e with e1 e2 e3
    subst e1
    refine ⟨g, 0, rfl, ?_⟩
    intro j v hv
    have hsp : ws.flatMap wc = (ws.take i).flatMap wc ++ (wc x ++ (ws.drop (i + 1)).flatMap wc) := by
      have e4 : ws = ws.take i ++ (x :: ws.drop (i + 1)) := by
        have e5 : ws[i] = x := by rw [List.getElem?_eq_getElem hi] at hx; exact Option.some.inj hx
        rw [← e5, ← List.drop_eq_getElem_cons hi, List.take_append_drop]
      conv => lhs; rw [e4]
      rw [List.flatMap_append, List.flatMap_cons]
    have hl1 : ((ws.take i).flatMap wc).length = i * 513 := by
      rw [flat_len94 _ fun y hy => hws y (List.mem_of_mem_take hy), List.length_take, Nat.min_eq_left (Nat.le_of_lt hi)]
    have hj : j < (wc x).length := by
      rcases Nat.lt_or_ge j (wc x).length with h | h
      · exact h
      · rw [List.getElem?_eq_none h] at hv; cases hv
    have := h.cells (g := g) rfl (i * 513 + j) v (by rw [hsp, List.getElem?_append_right (by omega), hl1, Nat.add_sub_cancel_left, List.getElem?_append_left hj]; exact hv)
    rw [add_flat94] at this
    rwa [show 0 + i * 513 + j = 0 + (i * 513 + j) by omega]
end Go.Proofs.Ytgjamgojjajcnaa

/- disk: the walk of Fail. -/
import Derived.Test.YtokbghpddgfnpaaBytes
namespace Go.Proofs.Ytokbghpddgfnpaa
open Go.RowKit
/-- the cells from A on read as these ints -/
def RdI (w : World) (A : Option Addr) (l : List Int) : Prop := ∀ j (h : j < l.length), ∃ b off, A = some ⟨b, off, none⟩ ∧ w.cell? ⟨b, off + j, none⟩ = some (.int .i64 l[j])
theorem RdI.keep {w w' : World} {A : Option Addr} {l : List Int} (h : RdI w A l) (hk : ∀ p : Addr, p.block < w.heap.size → (∃ b off, A = some ⟨b, off, none⟩ ∧ p.block = b) → w'.cell? p = w.cell? p) : RdI w' A l := fun j hj => by
  obtain ⟨b, off, e, hc⟩ := h j hj
  exact ⟨b, off, e, (hk _ (cell_lt hc) ⟨b, off, e, rfl⟩).trans hc⟩
theorem RdI.below {w w' : World} {A : Option Addr} {l : List Int} (h : RdI w A l) (hb : Below w.heap.size w w') : RdI w' A l := h.keep fun _ hp _ => hb.cell hp
theorem RdI.take {w : World} {A : Option Addr} {l : List Int} (h : RdI w A l) (n : Nat) : RdI w A (l.take n) := fun j hj => by
  obtain ⟨b, off, e, hc⟩ := h j (by simp at hj; omega)
  exact ⟨b, off, e, by rw [hc]; simp⟩
/-- those of the list -/
def inS (l : List Int) : Int → Bool := fun n => l.contains n
set_option maxRecDepth 8000 in
theorem inS_snoc (l : List Int) (x : Int) : inS (l ++ [x]) = addS (inS l) x := by
  funext n
  simp only [inS, addS, List.contains_eq_mem, List.mem_append, List.mem_singleton]
  by_cases h : n ∈ l <;> by_cases h2 : n = x <;> simp [h, h2]
/-- behind Fail -/
def Dk.failing (D : Dk) (l : List Int) : Dk := { D with frm := D.steps, fails := inS l }
set_option maxRecDepth 100000 in
set_option maxHeartbeats 800000 in
theorem fail_nil (w : World) (v : Value) : Calls Try.prog 21 #[.pointer none, v] w fun e w' => e = .returned (.int .i64 1) ∧ w = w' := by
  go_enter Try.func21, Try.ntmps21
  go_wp2_with (go_at_call 48; refine (there_nil _).mono ?_; rintro e w' ⟨rfl, rfl⟩)
  go_ret
  exact ⟨rfl, rfl⟩
set_option maxRecDepth 8000 in
theorem mem_take_neg {l : List Int} {k : Nat} (h : ∀ x ∈ l.take k, 0 ≤ x) {x : Int} (hx : l[k]? = some x) (h0 : 0 ≤ x) : ∀ y ∈ l.take (k + 1), 0 ≤ y := by
  intro y hy
  rw [List.take_add_one, hx] at hy
  rcases List.mem_append.1 hy with hy | hy
  · exact h y hy
  · simp at hy; subst hy; exact h0
set_option maxRecDepth 100000 in
set_option maxHeartbeats 1600000 in
theorem fail_any {w : World} {base p : Nat} {pl : Pl} {D : Dk} (h : DiskAt w base p pl D) (hbase : base ≤ w.heap.size) (A : Option Addr) (cap : Nat) (l : List Int) (hl : l.length ≤ 1000000) (hr : RdI w A l) :
    Calls Try.prog 21 #[.pointer (some ⟨p, 0, none⟩), .slice A l.length cap] w fun e w' =>
      ((∀ x ∈ l, 0 ≤ x) ∧ e = .returned (.int .i64 0) ∧ (∃ f, DiskAt w' base p { pl with f := some f } (D.failing l) ∧ w.heap.size ≤ f) ∧ Fr (pl.has p) w w') ∨ ((∃ x ∈ l, x < 0) ∧ e = .returned (.int .i64 2) ∧ Below w.heap.size w w') := by
  have H := Lib.hid h
  have HR := Lib.hid hr
  have hmm := @run_makeMap Try.prog
  have SM := Lib.hid (SetMap.made w)
  have BL := Lib.hid ((Below.refl w.heap.size w).alloc (Nat.le_refl _) (.map #[] 0))
  clear h hr
  go_enter Try.func21, Try.ntmps21
  go_wp2_with (go_at_call 48; refine (there_at H.out).mono ?_; rintro e w' ⟨rfl, rfl⟩)
  generalize w.alloc (.map #[] 0) = W0 at SM BL ⊢
  clear hmm
  go_loopw [14] (fun i wr => ∃ k : Nat, k ≤ l.length ∧ i = .int .i64 k ∧ (∀ x ∈ l.take k, 0 ≤ x) ∧ SetMap wr (some w.heap.size) (inS (l.take k)) ∧ Below w.heap.size w wr ∧ w.heap.size < wr.heap.size) (fun i _ => l.length - (intOf i).toNat)
  case atStart => exact ⟨0, Nat.zero_le _, rfl, by simp, (show SetMap W0 (some w.heap.size) (inS (l.take 0)) from SM.out), BL.out, SM.out.lt _ rfl⟩
  case round =>
    obtain ⟨k, hk, rfl, hpos, hs, hb, hsz⟩ := hrel
    by_cases hlt : k < l.length
    · have HRw := HR.out.below hb
      obtain ⟨b, off, rfl, hc⟩ := HRw k hlt
      obtain ⟨x, hx⟩ : ∃ x, x = l[k] := ⟨_, rfl⟩
      rw [← hx] at hc
      have HX := Lib.hid (show l[k]? = some x by rw [List.getElem?_eq_getElem hlt, hx])
      have HT := Lib.hid (show l.take (k + 1) = l.take k ++ [x] by rw [List.take_add_one, HX.out]; rfl)
      have i1 : (0 : Int) ≤ (k : Int) := by omega
      have i2 : (k : Int) < (l.length : Int) := by omega
      have HP := Lib.hid hpos
      have HS := Lib.hid hs
      have HB := Lib.hid hb
      have HZ := Lib.hid hsz
      clear hpos hs hb hsz HRw hx
      by_cases hneg : x < 0
      · have h1 : decide (x < 0) = true := by simpa using hneg
        have HN := Lib.hid hneg
        clear hneg
        go_wp2
        go_ret
        exact .inr ⟨⟨x, List.mem_of_getElem? HX.out, HN.out⟩, rfl, HB.out⟩
      · have h1 : decide (x < 0) = false := by simpa using hneg
        have HN := Lib.hid (show 0 ≤ x by omega)
        clear hneg
        go_wp2_with (refine wpList_add75 rfl (.tmp 20) (.tmp 21) (.tmp 22) rfl w.heap.size x rfl rfl rfl _ HS.out ?_; intro w2 hs2 hg2; have HS2 := Lib.hid hs2; have HG2 := Lib.hid hg2; clear hs2 hg2)
        go_roundw
        case rel => exact ⟨k + 1, by omega, by go_num, mem_take_neg HP.out HX.out HN.out, by rw [HT.out, inS_snoc]; exact HS2.out, HB.out.grown HG2.out HB.out.size (fun j e => by injection e with e; omega), Nat.lt_of_lt_of_le HZ.out HG2.out.size⟩
        case measure => simp [intOf]; omega
    · obtain rfl : k = l.length := by omega
      rw [List.take_length] at hpos hs
      have hd := H.out.below hb
      have hc3 := hd.c3
      have hc4 := hd.c4
      have hc5 := hd.c5
      have hf4 := hd.blk.frozen 4
      have hf5 := hd.blk.frozen 5
      have HP := Lib.hid hpos
      have HS := Lib.hid hs
      have HB := Lib.hid hb
      have HD := Lib.hid hd
      clear hpos hs hb hd hsz
      go_wp2
      go_ret
      refine .inl ⟨HP.out, rfl, ⟨w.heap.size, ?_, Nat.le_refl _⟩, ((Fr.of_below HB.out).setCell (fun _ => .inl rfl) _).setCell (fun _ => .inl rfl) _⟩
      have hpw : p < w.heap.size := H.out.blk.lt
      exact { HD.out with
        blk := (HD.out.blk.set_ 4 _).set_ 5 _
        map := (HD.out.map.keep (Below.heap_setCell _ _ _ _ HD.out.ne_pm)).keep (Below.heap_setCell _ _ _ _ HD.out.ne_pm)
        row := HD.out.keepRow (fun g hv => (Below.heap_setCell _ _ _ _ (fun e => HD.out.ne_pw (by rw [hv, e]))).trans (Below.heap_setCell _ _ _ _ (fun e => HD.out.ne_pw (by rw [hv, e]))))
        set := (HS.out.keep (fun b hb => Below.heap_setCell _ _ _ _ (by injection hb with hb; simp; omega))).keep (fun b hb => Below.heap_setCell _ _ _ _ (by injection hb with hb; simp; omega))
        bf := by intro b hb; injection hb with hb; omega
        ne := by intro e; injection e with e; have := H.out.map.lt; simp only at e; omega
        frm := Nat.le_refl _ }
end Go.Proofs.Ytokbghpddgfnpaa
